import Derived.Test.YtmnnkedjoecehaaGreatDoorGD
set_option maxHeartbeats 4000000
set_option maxRecDepth 100000
namespace Go.Proofs.YtmnnkedjoecehaaGreatDoor
open Tryz Go.RowKit Go.Sort Go.BigFrame
variable {W X w':World}{cap g lo n:Nat}{op:Int}{v:Value}
def Lr (w:World)(g:Nat)(v:Value)(c:List Stil.CC):Prop:=∃a cap,v=AE a c.length cap/\(c.length<=cap/\(a=none->cap=0))/\∀i (h:i<c.length),∃b o,a=some ⟨b,o,none⟩/\g<b/\b<w.heap.size/\Ju w b (o+i*3) c[i]
theorem Lr.grown {w:World}{d:List Stil.CC}(h:Lr w lo v d)(hg:w.grownBy w' (some g))(r:g<=lo):Lr w' lo v d:=by
 obtain⟨a,cap,rfl,l,m⟩:=h;refine⟨a,cap,rfl,l,λi hi=>?_⟩;obtain⟨b,o,k,e,c,q,f,j⟩:=m i hi;refine⟨b,o,k,e,CB c hg.size,?_,?_,?_⟩
 ·rw[Dk hg c AQ];exact q
 ·rw[Dk hg c AQ];exact f
 ·rw[Dk hg c AQ];exact j
theorem Lr.mono {w:World}{hi:Nat}{c:List Stil.CC}(h:Lr w hi v c)(hl:lo<=hi):Lr w lo v c:=by
 obtain⟨a,cap,rfl,f,j⟩:=h;refine⟨a,cap,rfl,f,λi hi=>?_⟩;obtain⟨b,o,e,k,d⟩:=j i hi;exact⟨b,o,e,AQ,d⟩
def NM (e:Ending)(w w':World)(g Q k:Nat):Prop:=∃(op:Int) (v:Value) (a:List Stil.CC),e=.returned (.agg #[AB op,v])/\(-1000000<=op/\op<=1000000)/\Lr w' (w.heap.size - 1) v a/\(∀d∈a,Small d)/\a.length<=k/\Ij w' g Q/\w.grownBy w' (some g)
theorem all1 {a:Stil.CC}(b:Small a):∀d∈[a],Small d:=by intro d hd;simp at hd;subst hd;exact b
theorem all2 {a b:Stil.CC}(c:Small a)(e:Small b):∀d∈[a,b],Small d:=by intro d hd;simp at hd;rcases hd with rfl | rfl;exact c;exact e
theorem oL {a b c:Stil.CC}(f:Small a)(e:Small b)(h:Small c):∀d∈[a,b,c],Small d:=by intro d hd;simp at hd;rcases hd with rfl | rfl | rfl;exact f;exact e;exact h
theorem Nh {b:Nat}(c:List Stil.CC)(cs:Array Value)(k:b=X.heap.size)(t:g<b)(j:cs.toList=Ar c)(hl:c.length<=100):Lr (X.alloc (.cells cs 111)) g (AE (some (AK b 0)) c.length c.length) c:=by
 subst k;have m:cs.size=c.length*3:=by
  have:=congrArg List.length j
  rw[Kv] at this;simpa using this
 have h:=World.ownsRow_lit (base:=X.heap.size) (e:=111) (size:=3) X cs c.length (CG _) A6 m;rw[j] at h;obtain⟨a,cap,f,q⟩:=Dj.of_owns h;simp only[Value.slice.injEq] at f;obtain⟨rfl,_,rfl⟩:=f;refine⟨_,_,rfl,⟨CG _,λh=>by cases h⟩,λi hi=>?_⟩;obtain⟨b,o,d,l,r⟩:=q i hi;have s:b=X.heap.size:=by simp only[C0,Addr.mk.injEq] at d;exact d.1.symm
 exact⟨b,o,d,AQ,l,r⟩
def IJ (w:World)(b:Nat)(d:Stil.CC):Prop:=b<w.heap.size/\w.cell? ⟨b,0,none⟩=some (AB d.kind)/\w.cell? ⟨b,1,none⟩=some (AB d.n)/\w.cell? ⟨b,2,none⟩=some (AB d.p)/\w.frozen? ⟨b,0,none⟩=false/\w.frozen? ⟨b,1,none⟩=false/\w.frozen? ⟨b,2,none⟩=false
theorem BW {b:Nat}{d:Stil.CC}(h:IJ W b d:=by refine⟨BR,?_,?_,?_,?_,?_,?_⟩<;>first | (exact cfA;done) | (repeat (first | with_reducible assumption | with_reducible refine O0.trans ?_ | with_reducible refine Ld.trans ?_ | with_reducible refine(Ip BR).trans ?_ | (simp[go_sem];done)))):IJ W b d:=h
def Yg (w:World)(b:Nat)(op:Int)(v:Value):Prop:=b<w.heap.size/\w.cell? ⟨b,0,none⟩=some (AB op)/\w.cell? ⟨b,1,none⟩=some v/\w.frozen? ⟨b,0,none⟩=false/\w.frozen? ⟨b,1,none⟩=false
theorem BO {b:Nat}(h:Yg W b op v:=by refine⟨BR,?_,?_,?_,?_⟩<;>first | (exact cfA;done) | (repeat (first | with_reducible assumption | with_reducible refine O0.trans ?_ | with_reducible refine Ld.trans ?_ | with_reducible refine(Ip BR).trans ?_ | (simp[go_sem];done)))):Yg W b op v:=h
theorem Yg.grown {w:World}{b:Nat}(h:Yg w b op v)(hg:w.grownBy w' (some g))(c:b≠g):Yg w' b op v:=by
 obtain⟨a,i,e,d,f⟩:=h;refine⟨CB a hg.size,?_,?_,?_,?_⟩
 ·rw[Dk hg a c];exact i
 ·rw[Dk hg a c];exact e
 ·rw[Gx hg a c];exact d
 ·rw[Gx hg a c];exact f
theorem Lr.setAt {w:World}{r o d l:Nat}{u:Value}{j:List Stil.CC}(f:r≠d)(h:Lr w g (AE (some (AK d l)) n cap) j):Lr (w.setCell (AK r o) u) g (AE (some (AK d l)) n cap) j:=by
 obtain⟨a,c,k,x,y⟩:=h;simp only[Value.slice.injEq] at k;obtain⟨rfl,rfl,rfl⟩:=k;refine⟨_,_,rfl,x,λi hi=>?_⟩;obtain⟨b,q,e,p,z,A,s,t⟩:=y i hi;have m:b=d:=by simp only[C0,Addr.mk.injEq] at e;exact e.1.symm
 subst m;refine⟨b,q,e,p,by simpa using z,?_,?_,?_⟩
 ·rw[F9 (Ne.symm f)];exact A
 ·rw[F9 (Ne.symm f)];exact s
 ·rw[F9 (Ne.symm f)];exact t
theorem kU {c:World}{b:Nat}(a:List Stil.CC)(cs:Array Value)(i:(X.alloc (.cells cs 111)).grownBy c (some g))(f:g<=lo)(d:b=X.heap.size)(h:lo<b)(e:cs.toList=Ar a)(hl:a.length<=100):Lr c lo (AE (some (AK b 0)) a.length a.length) a:=
 (Nh a cs d h e hl).grown i f
theorem kO {w:World}{a:Option Addr}{d:List Stil.CC}(k:Nat)(h:Lr w g (AE a n cap) d)(u:k<=d.length):Lr w g (AE a k cap) (d.take k):=by
 obtain⟨t,c,e,l,m⟩:=h;simp only[Value.slice.injEq] at e;obtain⟨rfl,rfl,rfl⟩:=e;have s:(d.take k).length=k:=by simp;omega
 refine⟨_,_,by rw[s],⟨AQ,l.2⟩,λi hi=>?_⟩;obtain⟨b,q,j,f,o,r⟩:=m i AQ;refine⟨b,q,j,f,o,?_⟩;rw[List.getElem_take];exact r
theorem oI (a:op=21\/op=21\/op=21\/op=22\/op=23\/op=24\/op=25\/op=26\/op=26\/op=27\/op=28\/op=29\/op=29\/op=30\/op=31\/op=31\/op=32\/op=33\/op=34\/op=35\/op=36\/op=37)
  (h1:(op==21)=false) (e:(op==22)=false) (b:(op==23)=false) (k:(op==24)=false) (f:(op==25)=false) (h:(op==26)=false) (i:(op==27)=false) (c:(op==28)=false) (m:(op==29)=false) (j:(op==36)=false) (d:(op==37)=false) (l:¬op=30):Stil.arity op=3:=by
 simp only[CS] at*;rcases a with rfl | rfl | rfl | rfl | rfl | rfl | rfl | rfl | rfl | rfl | rfl | rfl | rfl | rfl | rfl | rfl | rfl | rfl | rfl | rfl | rfl | rfl
 all_goals first | rfl | (exfalso;omega)
theorem zc {p:Prop}(h:p:=by
 go_region_with (go_at_call 74;refine(Pv g _ _ _ Av AQ AQ AQ).mono ?_;rintro e w6 ⟨a1,rfl,h1,hrd,hgr⟩;obtain⟨hz0,q0,p0,q1,p1⟩:QbE w6 w.heap.size:=qbE;obtain⟨hz1,q2,p2,q3,p3,q4,p4⟩:QbD w6 wa.heap.size d:=qbD;obtain⟨hz2,q5,p5,q6,p6,q7,p7⟩:QbD w6 wb.heap.size f2:=qbD)
 all_goals go_wp2
 all_goals
  refine bodyPost_ret (by simp[results,results47,go_sem,q0,q1,hz0];rfl) rfl ?_;exact⟨_,_,[a1,f2],rfl,AQ,Nh [a1,f2] _ AU AQ rfl AU,all2 h1 hf2,AU,A3,A2⟩):p:=h
theorem za0 {p:Prop}(h:p:=by
 refine bodyPost_ret (by simp[results,results47,go_sem,q0,q1,hz0];rfl) rfl ?_
 exact⟨_,_,[a1,a2,a3],rfl,AQ,Nh [a1,a2,a3] _ AU AQ rfl AU,oL h1 h2 h3,AU,A3,A2⟩):p:=h
theorem ze0 {p:Prop}(h:p:=by
 refine bodyPost_ret (by simp[results,results47,go_sem,q0,q1,hz0];rfl) rfl ?_
 exact⟨_,_,[a1],rfl,AQ,Nh [a1] _ AU AQ rfl AU,all1 h1,AU,A3,A2⟩):p:=h
theorem zq0 {p:Prop}(h:p:=by
 refine bodyPost_ret (by simp[results,results47,go_sem,q0,q1,hz0];rfl) rfl ?_
 exact⟨_,_,[a1,a2],rfl,AQ,Nh [a1,a2] _ AU AQ rfl AU,all2 h1 h2,AU,A3,A2⟩):p:=h
theorem Tq (g P:Nat)(w:World)(hr:Ij w g P)(J:P<=1000000000):
  Calls prog 47 #[AH g] w λe w'=>NM e w w' g (P+40) 3:=by
 have G:=V8 hr;go_enter func47,ntmps47;go_upto_if 20 with(first | (go_at_call_of 46 (22:Nat);refine(FA g _ _ _ [21,21,21,22,23,24,25,26,26,27,28,29,29,30,31,31,32,33,34,35,36,37] _ Av AQ (Dp (by simp[Gn,go_sem])) AU BU AU AU).mono ?_;rintro e D ⟨op,rfl,s,hrd,hgr⟩;simp only[C7,EA,DR] at s;obtain⟨hz0,q0,p0,q1,p1⟩:QbE D w.heap.size:=qbE) | (go_at_call_of 24 (Value.int IntKind.i64 2);refine(Fv g _ _ _ Av AQ AQ AQ).mono ?_;rintro e C ⟨x,rfl,l,m,hrd,hgr⟩;obtain⟨hz0,q0,p0,q1,p1⟩:QbE C w.heap.size:=qbE) | (have _:=t;(go_at_call 74;refine(Pv g _ _ _ Av AQ AQ AQ).mono ?_;rintro e wb ⟨f,rfl,u,hrd,hgr⟩;obtain⟨hz0,q0,p0,q1,p1⟩:QbE wb w.heap.size:=qbE;obtain⟨hz1,q2,p2,q3,p3,q4,p4⟩:QbD wb wa.heap.size d:=qbD)) | (go_at_call 74;refine(Pv g _ _ _ Av AQ AQ AQ).mono ?_;rintro e wa ⟨d,rfl,t,hrd,hgr⟩;obtain⟨hz0,q0,p0,q1,p1⟩:QbE wa w.heap.size:=qbE))
 go_cut [] (λwc=>∃f2:Stil.CC,Small f2/\Ij wc g (P+20)/\w.grownBy wc (some g)/\Yg wc w.heap.size 0 AG/\IJ wc wa.heap.size d/\IJ wc wb.heap.size f2)
 case first=>
  go_wp2_with (go_at_call_of 24 (Value.int IntKind.i64 9);refine(Fv g _ _ _ Av AQ AQ AQ).mono ?_;rintro e y ⟨x,rfl,l,m,hrd,hgr⟩;obtain⟨hz0,q0,p0,q1,p1⟩:QbE y w.heap.size:=qbE;obtain⟨hz1,q2,p2,q3,p3,q4,p4⟩:QbD y wa.heap.size d:=qbD;obtain⟨hz2,q5,p5,q6,p6,q7,p7⟩:QbD y wb.heap.size f:=qbD)
  ·go_meet
   exact⟨⟨f.kind,x,f.p⟩,⟨u.1,⟨by simp only;omega,by simp only;omega⟩,u.2.2⟩,A3,A2,BO,BW,BW⟩
  ·go_meet
   exact⟨f,u,A3,A2,BO,BW,BW⟩
 case rest=>
  clear q0 q1 q2 q3 q4 p0 p1 p2 p3 p4 hrd;obtain⟨f2,hf2,hrd,H,⟨hz0,q0,q1,p0,p1⟩,⟨hz1,q2,q3,q4,p2,p3,p4⟩,⟨hz2,q5,q6,q7,p5,p6,p7⟩⟩:=hcut;have I:21<=op/\op<=37:=AQ
  have E:Hid (op=21\/op=21\/op=21\/op=22\/op=23\/op=24\/op=25\/op=26\/op=26\/op=27\/op=28\/op=29\/op=29\/op=30\/op=31\/op=31\/op=32\/op=33\/op=34\/op=35\/op=36\/op=37):=s;clear s;by_cases B:op=30
  ·subst B
   go_wp2_with (first | (go_at_call_of 24 (Value.int IntKind.i64 3);refine(Fv g _ _ _ Av AQ AQ AQ).mono ?_;rintro e w3 ⟨x,rfl,l,m,hrd,hgr⟩;obtain⟨hz0,q0,p0,q1,p1⟩:QbE w3 w.heap.size:=qbE) | (go_at_call_of 24 (Value.int IntKind.i64 2);refine(Fv g _ _ _ Av AQ AQ AQ).mono ?_;rintro e z ⟨x,rfl,l,m,hrd,hgr⟩;obtain⟨hz0,q0,p0,q1,p1⟩:QbE z w.heap.size:=qbE) | (go_at_call_of 46 (5:Nat);refine(FA g _ _ _ [2,3,4,7,8] _ Av AQ (Dp (by simp[Gn,go_sem])) AU BU AU AU).mono ?_;rintro e q ⟨x,rfl,A,hrd,hgr⟩;simp only[C7,EA,DR] at A;obtain⟨hz0,q0,p0,q1,p1⟩:QbE q w.heap.size:=qbE) | (have _:=h2;(go_at_call 75;refine(V4 g _ _ Av AQ).mono ?_;rintro e j ⟨a3,rfl,h3,hrd,hgr⟩;obtain⟨hz0,q0,p0,q1,p1⟩:QbE j w.heap.size:=qbE)) | (have _:=h2;(go_at_call 76;refine(Zj g _ _ Av AQ).mono ?_;rintro e j ⟨a3,rfl,h3,hrd,hgr⟩;obtain⟨hz0,q0,p0,q1,p1⟩:QbE j w.heap.size:=qbE)) | (have _:=h1;(go_at_call 75;refine(V4 g _ _ Av AQ).mono ?_;rintro e c ⟨a2,rfl,h2,hrd,hgr⟩;obtain⟨hz0,q0,p0,q1,p1⟩:QbE c w.heap.size:=qbE)) | (have _:=h1;(go_at_call 76;refine(Zj g _ _ Av AQ).mono ?_;rintro e c ⟨a2,rfl,h2,hrd,hgr⟩;obtain⟨hz0,q0,p0,q1,p1⟩:QbE c w.heap.size:=qbE)) | (go_at_call 74;refine(Pv g _ _ _ Av AQ AQ AQ).mono ?_;rintro e w6 ⟨a1,rfl,h1,hrd,hgr⟩;obtain⟨hz0,q0,p0,q1,p1⟩:QbE w6 w.heap.size:=qbE) | (go_at_call 77;refine(Jy _ _).mono ?_;rw[show Stil.arity 30=2 from rfl];rintro e F ⟨rfl,rfl⟩))
   all_goals
    refine bodyPost_ret (by simp[results,results47,go_sem,q0,q1,hz0];rfl) rfl ?_;exact⟨_,_,[a1,a2],rfl,AQ,kO 2 (Nh [a1,a2,a3] _ AU AQ rfl AU) AU,all2 h1 h2,AU,A3,A2⟩
  ·go_wp2_with (first | (go_at_call_of 24 (Value.int IntKind.i64 3);refine(Fv g _ _ _ Av AQ AQ AQ).mono ?_;rintro e w3 ⟨x,rfl,l,m,hrd,hgr⟩;obtain⟨hz0,q0,p0,q1,p1⟩:QbE w3 w.heap.size:=qbE) | (go_at_call_of 24 (Value.int IntKind.i64 2);refine(Fv g _ _ _ Av AQ AQ AQ).mono ?_;rintro e z ⟨x,rfl,l,m,hrd,hgr⟩;obtain⟨hz0,q0,p0,q1,p1⟩:QbE z w.heap.size:=qbE) | (go_at_call_of 46 (5:Nat);refine(FA g _ _ _ [2,3,4,7,8] _ Av AQ (Dp (by simp[Gn,go_sem])) AU BU AU AU).mono ?_;rintro e q ⟨x,rfl,A,hrd,hgr⟩;simp only[C7,EA,DR] at A;obtain⟨hz0,q0,p0,q1,p1⟩:QbE q w.heap.size:=qbE) | (have _:=h2;(go_at_call 75;refine(V4 g _ _ Av AQ).mono ?_;rintro e j ⟨a3,rfl,h3,hrd,hgr⟩;obtain⟨hz0,q0,p0,q1,p1⟩:QbE j w.heap.size:=qbE)) | (have _:=h2;(go_at_call 76;refine(Zj g _ _ Av AQ).mono ?_;rintro e j ⟨a3,rfl,h3,hrd,hgr⟩;obtain⟨hz0,q0,p0,q1,p1⟩:QbE j w.heap.size:=qbE)) | (have _:=h1;(go_at_call 75;refine(V4 g _ _ Av AQ).mono ?_;rintro e c ⟨a2,rfl,h2,hrd,hgr⟩;obtain⟨hz0,q0,p0,q1,p1⟩:QbE c w.heap.size:=qbE)) | (have _:=h1;(go_at_call 76;refine(Zj g _ _ Av AQ).mono ?_;rintro e c ⟨a2,rfl,h2,hrd,hgr⟩;obtain⟨hz0,q0,p0,q1,p1⟩:QbE c w.heap.size:=qbE)) | (go_at_call 74;refine(Pv g _ _ _ Av AQ AQ AQ).mono ?_;rintro e w6 ⟨a1,rfl,h1,hrd,hgr⟩;obtain⟨hz0,q0,p0,q1,p1⟩:QbE w6 w.heap.size:=qbE) | (go_at_call 77;refine(Jy _ _).mono ?_;(first | rw[show Stil.arity 35=3 from rfl] | rw[oI E.out BB BB BB BB BB BB BB BB BB BB BB B]);rintro e F ⟨rfl,rfl⟩))
   ·refine bodyPost_ret (by simp[results,results47,go_sem,q0,q1,hz0];rfl) rfl ?_
    exact⟨_,_,[d],rfl,AQ,Nh [d] _ AU AQ rfl AU,all1 t,AU,A3,A2⟩
   ·exact ze0
   ·exact ze0
   ·go_region_with (go_at_call 74;refine(Pv g _ _ _ Av AQ AQ AQ).mono ?_;rintro e w6 ⟨a1,rfl,h1,hrd,hgr⟩;obtain⟨hz0,q0,p0,q1,p1⟩:QbE w6 w.heap.size:=qbE;obtain⟨hz1,q2,p2,q3,p3,q4,p4⟩:QbD w6 wa.heap.size d:=qbD;obtain⟨hz2,q5,p5,q6,p6,q7,p7⟩:QbD w6 wb.heap.size f2:=qbD)
    all_goals go_wp2
    all_goals
     refine bodyPost_ret (by simp[results,results47,go_sem,q0,q1,hz0];rfl) rfl ?_;exact⟨_,_,[d,a1],rfl,AQ,Nh [d,a1] _ AU AQ rfl AU,all2 t h1,AU,A3,A2⟩
   ·exact ze0
   ·exact zc
   ·exact zc
   ·exact zc
   ·exact zc
   ·exact zq0
   ·exact zq0
   ·exact za0
   ·exact za0
   ·exact za0
