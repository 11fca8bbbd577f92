import Derived.Test.YtifcnfeppdbjdaaGreatDoorD8
import Derived.OpenVars
import Derived.LaidMore
import Derived.Lay
import Derived.Deep.DeepHandedRow
import Derived.Test.YtifcnfeppdbjdaaGreatDoorGY
namespace Go.Proofs.YtifcnfeppdbjdaaGreatDoor
open Tryz Go.RowKit Go.Sort Go.BigFrame
variable {W w':World}{base cap fuel g k n o:Nat}{r:Option Nat}{v:Value}
theorem Fj {w:World}{P:Nat}(h:Ig w g P)(hg:w.grownBy w' r)(hr:∀k,r=some k->g<k):Ig w' g P:=by
 have C:=Va h;obtain⟨a,len,cap,p,u,l,f,s,m,y⟩:=h;have c:∀b,b<=g->w'.heap[b]?=w.heap[b]?:=λb c=>hg.block b AQ (λe=>by have:=hr b e.symm;omega)
 have d:∀b o,b<=g->w'.cell? (AK b o)=w.cell? (AK b o):=λb o h=>by unfold World.cell?;rw[c b h]
 refine⟨a,len,cap,p,by rw[d _ _ (CG _)];exact u,by rw[d _ _ (CG _)];exact l,by unfold World.frozen? at f ⊢;rw[c g (CG _)];exact f,s,m,λi hi=>?_⟩;obtain⟨b,q,z,j,x,A,B,t⟩:=y i hi;exact⟨b,q,z,j,x,by rw[d _ _ AQ];exact A,B,t⟩
theorem J5 {w a b:World}{s:Option Nat}(h:w.grownBy a r)(k:a.grownBy b s)(f:∀j,s=some j->w.heap.size<=j):w.grownBy b r:=
 ⟨k.os.trans h.os,k.tape.trans h.tape,k.output.trans h.output,CJ h.size k.size,λj c d=>(k.block j (CB c h.size) (λe=>by have:=f j e.symm;omega)).trans (h.block j c d)⟩
theorem RU {w:World}{j:List Stil.CC}(h:w.ownsRow base 55 3 v j.length (Au j))(hg:g<base):Lm w g v j:=by
 have hd:=Dk.of_owns h;rcases h.2 with⟨m,B⟩ | ⟨b,cap,cur,d,A,z,x,_⟩
 ·obtain⟨a,c,d,q⟩:=hd
  rw[m] at d;simp only[Value.slice.injEq] at d;obtain⟨rfl,s,rfl⟩:=d;exact⟨none,0,by rw[m,s],⟨AQ,λ_=>rfl⟩,λi hi=>absurd hi AQ⟩
 ·obtain⟨a,c,u,q⟩:=hd
  have e:=d.symm.trans u;simp only[Value.slice.injEq] at e;obtain⟨rfl,_,rfl⟩:=e;refine⟨_,cap,d,⟨x,λh=>by cases h⟩,λi hi=>?_⟩;obtain⟨l,o,f,y,t⟩:=q i hi;have:l=b:=by simp only[CZ,Addr.mk.injEq] at f;exact f.1.symm
  exact⟨l,o,f,AQ,y,t⟩
theorem ZX {w:World}{a:List Stil.CC}(b:a.length=n)(h:w.ownsRow base 55 3 v n (Au a))(hg:g<base):Lm w g v a:=by
 subst b;exact RU h hg
theorem kG {w:World}{b:Nat}{l:List Stil.CC}(h:Lm w g (AE (some (AK b o)) n cap) l):∀j u,(Au l)[j]?=some u->w.cell? (((AK b o):Addr).add j)=some u:=by
 intro j u i;obtain⟨a,c,q,_,x⟩:=h;simp only[Value.slice.injEq] at q;obtain⟨rfl,rfl,rfl⟩:=q;have D:j<l.length*3:=by rw[<-Ku];exact(List.getElem?_eq_some_iff.1 i).1
 obtain⟨C,E,m,_,_,A,t,y⟩:=x (j / 3) AQ;simp only[CZ,Addr.mk.injEq,E0] at m;obtain⟨rfl,rfl⟩:=m;obtain⟨z,s,B⟩:=Nr l (j / 3) AQ;rw[Addr.add_lit];have f:j % 3=0\/j % 3=1\/j % 3=2:=AQ
 rcases f with f | f | f
 ·have e:j=j / 3*3:=by omega
  have d:o+j=o+j / 3*3:=AQ
  rw[d,A,<-z,<-e];exact i
 ·have e:j=j / 3*3+1:=by omega
  have d:o+j=o+j / 3*3+1:=AQ
  rw[d,t,<-s,<-e];exact i
 ·have e:j=j / 3*3+2:=by omega
  have d:o+j=o+j / 3*3+2:=AQ
  rw[d,y,<-B,<-e];exact i
theorem Bv {w:World}{e:TypeId}{size:Nat}{xs:List Value}(h:w.ownsRow base e size v n xs)(hg:w.grownBy w' (some g))(f:g<base):w'.ownsRow base e size v n xs:=by
 refine⟨h.1,?_⟩;rcases h.2 with d | ⟨k,cap,cur,hv,a,b,c⟩
 ·exact Or.inl d
 ·have:=(h.lt k yEi).2
  exact Or.inr ⟨k,cap,cur,hv,a,by rw[hg.block k this (by intro e;cases e;omega)];exact b,c⟩
theorem TF:∀(a:List Stil.CC) (k:Nat) (d:Stil.CC),k<a.length->(((Au a).set (k*3) (AB d.kind)).set (k*3+1) (AB d.n)).set (k*3+2) (AB d.p)=Au (a.set k d)
 | [],k,d,h=>by simp at h
 | c::r,0,d,_=>rfl
 | c::r,k+1,d,h=>by
  have e:Au (c::r)=AB c.kind::AB c.n::AB c.p::Au r:=rfl;have f:Au ((c::r).set (k+1) d)=AB c.kind::AB c.n::AB c.p::Au (r.set k d):=rfl;have b:(k+1)*3=k*3+1+1+1:=AQ
  rw[e,f,b,<-TF r k d BR];rfl
theorem W7 {w:World}{b:Nat}{a:List Stil.CC}(h:w.ownsRow base 55 3 (AE (some (AK b 0)) n cap) n (Au a))(d:Stil.CC)(c:k<a.length):
  (((w.setCell (AK b (k*3)) (AB d.kind)).setCell (AK b (k*3+1)) (AB d.n)).setCell (AK b (k*3+2)) (AB d.p)).ownsRow base 55 3 (AE (some (AK b 0)) n cap) n (Au (a.set k d)):=by
 rw[<-TF a k d c];exact(((h.stored (k*3) _).1.stored (k*3+1) _).1.stored (k*3+2) _).1
theorem L2 {w:World}{b:Nat}{a:List Stil.CC}(h:w.ownsRow base 55 3 (AE (some (AK b 0)) a.length cap) a.length (Au a))(i:k<a.length):
  w.cell? (AK b (k*3))=some (AB a[k].kind)/\w.cell? (AK b (k*3+1))=some (AB a[k].n)/\w.cell? (AK b (k*3+2))=some (AB a[k].p)/\w.frozen? (AK b (k*3))=false/\w.frozen? (AK b (k*3+1))=false/\w.frozen? (AK b (k*3+2))=false:=by
 obtain⟨g,c,e,_,_,_,d⟩:=Cb h AQ;simp only[Value.slice.injEq,CZ,Addr.mk.injEq] at e;obtain⟨⟨rfl,_⟩,_⟩:=e;obtain⟨j,f,l⟩:=Nr a k i;exact⟨d _ _ j,d _ _ f,d _ _ l,h.frozenAt _,h.frozenAt _,h.frozenAt _⟩
theorem nL (w:World)(g:Nat):Lm w g AG []:=⟨none,0,rfl,⟨CG _,λ_=>rfl⟩,λi hi=>by simp at hi⟩
theorem OS {a:List Stil.CC}(h:∀d∈a,Small d)(k:Nat)(d:Stil.CC)(hd:Small d):∀x∈a.set k d,Small x:=λx c=>by
 rcases MY c with b | rfl
 ·exact h x b
 ·exact hd
set_option maxHeartbeats 2000000 in
set_option maxRecDepth 100000 in
theorem XW (g P:Nat)(op:Int)(v:Value)(c:List Stil.CC)(w:World)(hr:Ig w g P)(hP:P<=1000000000)(R:-1000000<=op/\op<=1000000)(hv:Lm w g v c)(hs:∀d∈c,Small d)(hl:c.length<=50000):
  Calls prog 134 #[AH g, .agg #[AB op,v]] w λe w'=>NF e w w' g (P+20) (c.length+1):=by
 obtain⟨i0,hi,B,D,ab⟩:=info_parts QC;have hg:=Va hr;have HV:Hid (∀W,w.grownBy W (some g)->Lm W g v c):=λW h=>hv.grown h (CG _)
 have K:Hid (∀d∈c,Small d):=hs;obtain⟨a,cap,rfl,⟨aJ,ax⟩,hx⟩:=hv;have Z:Hid (∀i (h:i<c.length),∃b o,a=some (AK b o)/\g<b/\b<w.heap.size/\Jg w b (o+i*3) c[i]):=hx;clear hx hs;go_enter func134,ntmps134;go_upto_region 1 with fail
 go_cut [5] (λs5 wc=>∃b C,s5=AE (some (AK b 0)) c.length C/\wc.ownsRow (w.heap.size+2) 55 3 (AE (some (AK b 0)) c.length C) c.length (Au c)/\Ig wc g P/\w.grownBy wc (some g)/\Xz wc w.heap.size op (AE a c.length cap)/\Xz wc (w.heap.size+1) 0 AG)
 case first=>
  cases a with
  | none=>
   obtain rfl:c=[]:=by
    cases c with
    | nil=>rfl
    | cons d r=>obtain⟨b,o,h,_⟩:=Z 0 AU;cases h
   obtain rfl:=ax rfl
   go_wp2
   go_meet;have s:=World.ownsRow_lit (base:=w.heap.size+2) (e:=55) (size:=3) ((w.alloc (.cells #[AB op,AG] 51)).alloc (.cells #[AB 0,AG] 51)) #[] 0 AU A6 rfl;exact⟨w.heap.size+1+1,0,rfl,by simpa[Au] using s,A2,A0,BN,BN⟩
  | some ad=>
   have HN:Hid (∀W,w.grownBy W (some g)->∀j u,(Au c)[j]?=some u->W.cell? (ad.add j)=some u):=by
    intro W hW j u I;by_cases hd:c=[]
    ·subst hd;simp[Au] at I
    ·obtain⟨b,o,h,_⟩:=Z 0 (by cases c with | nil=>exact absurd rfl hd | cons d r=>simp)
     cases h;exact kG (HV W hW) j u I
   have s:=World.ownsRow_lit (base:=w.heap.size+2) (e:=55) (size:=3) ((w.alloc (.cells #[AB op,AE (some ad) c.length cap] 51)).alloc (.cells #[AB 0,AG] 51)) #[] 0 AU A6 rfl;have ao:((((w.alloc (.cells #[AB op,AE (some ad) c.length cap] 51)).alloc (.cells #[AB 0,AG] 51)).alloc (.cells #[] 55))).ownsRow (w.heap.size+2) 55 3 (AE (some (AK (w.heap.size+1+1) 0)) 0 0) 0 []:=by simpa using s
   clear s
   go_wp2_with (at_builtin;refine wpList_append_own _ rfl _ _ 49 rfl (w.heap.size+2) 55 i0 (.agg #[AB 0,AB 0,AB 0]) 3 24 underlying49 hi B D ab rfl AY _ _ _ rfl ao ad c.length cap (Au c) rfl (Ku _) (HN _ A0) (Wy _) A6 AQ AU ?_)
   intro v' w3 ag ai ac;have N:((((w.alloc (.cells #[AB op,AE (some ad) c.length cap] 51)).alloc (.cells #[AB 0,AG] 51)).alloc (.cells #[] 55))).grownBy w3 (some (w.heap.size+1+1)):=ai;obtain⟨b,C,rfl⟩:∃b C,v'=.slice (some (AK b 0)) c.length C:=by
    rcases ag.2 with⟨h0,h1⟩ | ⟨b,C,cur,h0,_⟩
    ·exact absurd h0 ac
    ·exact⟨b,C,h0⟩
   clear ai ac
   go_wp2
   go_meet;refine⟨b,C,rfl,ag,Fj (Bl (Bl (Bl hr _) _) _) N yEc,J5 (Ea (Ea (Ea (Nq _ _) _) _) _) N yEc,Xz.grown ?_ N AQ,Xz.grown ?_ N AQ⟩
   ·exact BN
   ·exact BN
 case rest=>
  obtain⟨b,C,rfl,M,t,aj,⟨af,A,q1,E,z⟩,⟨an,l,m,y,F⟩⟩:=hcut;clear HV Z;have ar:w.heap.size+2<=b/\b<wc.heap.size:=M.lt b rfl;obtain⟨aE,az⟩:=ar;go_upto_if 37 with(first | (go_at_call_of 37 (Value.int IntKind.i64 6);refine(Fp g _ _ _ Ab AQ AQ AQ).mono ?_;rintro e w3 ⟨x,rfl,av,au,t,O⟩;obtain⟨B,A,E,q1,z⟩:Fo w3 w.heap.size (AB op) (AE a c.length cap):=qb2;obtain⟨D,l,y,m,F⟩:QbE w3 ((w.heap.size+1)):=qbE) | (go_at_call_of 39 (10:Nat);refine(X9 g _ _ _ [-1,0,1,5,11,20,21,26,37,38] _ Ab AQ (Cm (by simp[Fz,go_sem])) AU BO AU AU).mono ?_;rintro e w4 ⟨aa,rfl,H,t,aY⟩;simp only[DF,Da,DK] at H;obtain⟨B,A,E,q1,z⟩:Fo w4 w.heap.size (AB op) (AE a c.length cap):=qb2;obtain⟨D,l,y,m,F⟩:QbE w4 ((w.heap.size+1)):=qbE))
  ·have s:=Bv ((Bv M O AQ).alloc _) aY AQ
   refine bodyPost_ret (by simp[results,results134,go_sem,l,m];rfl) rfl ?_;exact⟨_,_,c,rfl,AQ,RU (ownsRow_setCell_below (ownsRow_setCell_below s (DV _) _) (DV _) _) AQ,K.out,AQ,A2,A0⟩
  ·have s:=Bv M O AQ
   go_region_law (first | (refine oq rfl _ _ 49 rfl (w.heap.size+2) 55 i0 (.agg #[AB 0,AB 0,AB 0]) 3 24 underlying49 hi BD BD ab rfl AY _ _ _ rfl ((Bv s ⟨q.os,q.tape,q.output,q.size,q.block⟩ AQ).alloc _) _ _ _ (W9 d) rfl rfl (H5 _ (W9 d) _ _ AU) (by intro u hu;simp[W9] at hu;rcases hu with rfl | rfl | rfl<;>rfl) A6 AQ Bm ?_;intro v' G ah V;obtain⟨b6,ap,rfl,aB,aF,_,_⟩:=Cb ah AQ;have uZ:(J.alloc (.cells #[AB d.kind,AB d.n,AB d.p] 55)).grownBy G (some b):=V;obtain⟨B,A,E,q1,z⟩:Fo G w.heap.size (AB op) (AE a c.length cap):=qb2;obtain⟨D,l,y,m,F⟩:QbE G ((w.heap.size+1)):=qbE) | (go_simp;go_at_call 148;refine(eB g _ _ Ab AQ).mono ?_;rintro e J ⟨d,rfl,hd,t,q⟩;have aH:w3.heap.size<=J.heap.size:=q.size;obtain⟨B,A,E,q1,z⟩:Fo J w.heap.size (AB op) (AE a c.length cap):=qb2;obtain⟨D,l,y,m,F⟩:QbE J ((w.heap.size+1)):=qbE))
   all_goals go_wp2
   all_goals
    have aG:=Fj (Bl t _) uZ yEc;have aA:w.grownBy G (some g):=J5 (Ea (D5 (D5 aj O) ⟨q.os,q.tape,q.output,q.size,q.block⟩) _) uZ yEc;have dV:G.ownsRow (w.heap.size+2) 55 3 (AE (some (AK b6 0)) (c.length+1) ap) (c.length+1) (Au (c++[d])):=by rw[pO];exact ah
    refine bodyPost_ret (by simp[results,results134,go_sem,l,m];rfl) rfl ?_;refine⟨_,_,c++[d],rfl,R,ZX (n:=c.length+1) AU (ownsRow_setCell_below (ownsRow_setCell_below dV (DV _) _) (DV _) _) AQ,?_,AU,A2,A0⟩;intro aa H;rcases List.mem_append.1 H with H | H
    ·exact K aa H
    ·simp at H;subst H;exact hd
  ·refine bodyPost_ret (by simp[results,results134,go_sem,l,m];rfl) rfl ?_
   exact⟨_,_,[],rfl,R,nL _ _,AU,AU,A2,A0⟩
  ·have s:=Bv M O AQ
   have e0:(x==0)=false:=BD
   have e1:(x==1)=false:=BD
   have e2:(x==2)=false:=BD
   rw[e0,e1,e2];go_cut [6] (λ_ wc=>∃L:List Stil.CC,L.length=c.length/\(∀d∈L,Small d)/\wc.ownsRow (w.heap.size+2) 55 3 (AE (some (AK b 0)) c.length C) c.length (Au L)/\Ig wc g (P+19)/\w.grownBy wc (some g)/\Xz wc w.heap.size op (AE a c.length cap)/\Xz wc (w.heap.size+1) 0 AG)
   case first=>
    by_cases aD:c.length=0
    ·go_wp2
     go_meet;exact⟨c,rfl,K.out,s,A2,A0,BN,BN⟩
    ·go_upto_if 53 with(first | (go_at_call_of 37 (c.length:Nat);refine(Fp g _ _ _ Ab AQ AQ AQ).mono ?_;rintro e J ⟨aa,rfl,af,an,t,q⟩;obtain⟨B,A,E,q1,z⟩:Fo J w.heap.size (AB op) (AE a c.length cap):=qb2;obtain⟨D,l,y,m,F⟩:QbE J ((w.heap.size+1)):=qbE;obtain⟨j,rfl⟩:=FP af;have I:j<c.length:=AQ;have al:=Bv s q AQ;obtain⟨r0,S,r2,U,Y,Q⟩:=L2 al I) | (go_at_call 149;refine(WQ g _ c[j] _ Ab AQ (K _ (CN I))).mono ?_;rintro e G ⟨d,rfl,hd,t,V⟩;have ak:=Bv al V AQ;obtain⟨r0,S,r2,U,Y,Q⟩:=L2 ak I;obtain⟨B,A,E,q1,z⟩:Fo G w.heap.size (AB op) (AE a c.length cap):=qb2;obtain⟨D,l,y,m,F⟩:QbE G ((w.heap.size+1)):=qbE) | (go_at_call_of 37 (Value.int IntKind.i64 2);refine(Fp g _ _ _ Ab AQ AQ AQ).mono ?_;rintro e w7 ⟨x,rfl,av,au,t,aP⟩;have X:=Bv (W7 ak d I) aP AQ;have T:j<(c.set j d).length:=(by simpa using I);obtain⟨r0,S,r2,U,Y,Q⟩:=L2 (by simpa using X) T;obtain⟨B,A,E,q1,z⟩:Fo w7 w.heap.size (AB op) (AE a c.length cap):=qb2;obtain⟨D,l,y,m,F⟩:QbE w7 ((w.heap.size+1)):=qbE))
     go_wp2_with ((go_at_call 148;refine(eB g _ _ Ab AQ).mono ?_;rintro e w8 ⟨f,rfl,hf,t,bZ⟩;have ae:=Bv X bZ AQ;obtain⟨r0,S,r2,U,Y,Q⟩:=L2 (by simpa using ae) T;obtain⟨B,A,E,q1,z⟩:Fo w8 w.heap.size (AB op) (AE a c.length cap):=qb2;obtain⟨D,l,y,m,F⟩:QbE w8 ((w.heap.size+1)):=qbE))
     ·go_meet
      exact⟨(c.set j d).set j f,AU,OS (OS K _ _ hd) _ _ hf,W7 ae f T,A2,A0,BN,BN⟩
     ·go_meet
      exact⟨c.set j d,AU,OS K _ _ hd,X,A2,A0,BN,BN⟩
   case rest=>
    clear t A q1 l m E z y F;obtain⟨L,ay,aw,s,t,aj,⟨B,A,q1,E,z⟩,⟨D,l,m,y,F⟩⟩:=hcut
    go_wp2
    refine bodyPost_ret (by simp[results,results134,go_sem,l,m];rfl) rfl ?_;exact⟨_,_,L,rfl,R,ZX ay (ownsRow_setCell_below (ownsRow_setCell_below s (DV _) _) (DV _) _) AQ,aw,AQ,A2,A0⟩
theorem zv {p:Prop}(h:p:=by
 refine bodyPost_ret (by simp[results,results68,go_sem,q0,q1,hz0];rfl) rfl ?_
 exact⟨_,_,[d],rfl,AQ,Na [d] _ AU AQ rfl AU,all1 hd,AU,A2,A0⟩):p:=h
set_option maxHeartbeats 2000000 in
set_option maxRecDepth 100000 in
theorem Jb (g P:Nat)(w:World)(hr:Ig w g P)(hP:P<=1000000000):
  Calls prog 68 #[AH g] w λe w'=>NF e w w' g (P+20) 3:=by
 have hg:=Va hr;go_enter func68,ntmps68;go_upto_if 39 with(first | (go_at_call_of 37 (Value.int IntKind.i64 8);refine(Fp g _ _ _ Ab AQ AQ AQ).mono ?_;rintro e w0 ⟨x,rfl,R,Q,j,c⟩;obtain⟨hz0,q0,m,q1,l⟩:QbE w0 w.heap.size:=qbE) | (go_at_call 108;refine(jN g _ _ Ab AQ).mono ?_;rintro e w1 ⟨d,rfl,hd,j,c⟩;obtain⟨hz0,q0,m,q1,l⟩:QbE w1 w.heap.size:=qbE) | (go_at_call 69;refine(Ph g _ _ _ Ab AQ AQ AQ).mono ?_;rintro e w2 ⟨f,rfl,hf,j,c⟩;obtain⟨hz0,q0,m,q1,l⟩:QbE w2 w.heap.size:=qbE) | (have _:=aa;(go_at_call 70;refine(Vm g _ _ Ab AQ).mono ?_;rintro e C ⟨f,rfl,Z,j,c⟩;obtain⟨hz0,q0,m,q1,l⟩:QbE C w.heap.size:=qbE;obtain⟨J,u,t,A,B,y,s⟩:QbD C z.heap.size d:=qbD)) | (go_at_call 70;refine(Vm g _ _ Ab AQ).mono ?_;rintro e z ⟨d,rfl,aa,j,c⟩;obtain⟨hz0,q0,m,q1,l⟩:QbE z w.heap.size:=qbE) | (have _:=Z;(go_at_call_of 37 (Value.int IntKind.i64 2);refine(Fp g _ _ _ Ab AQ AQ AQ).mono ?_;rintro e V ⟨x,rfl,R,Q,j,c⟩;obtain⟨hz0,q0,m,q1,l⟩:QbE V w.heap.size:=qbE;obtain⟨J,u,t,A,B,y,s⟩:QbD V z.heap.size d:=qbD;obtain⟨M,D,F,G,H,E,I⟩:QbD V C.heap.size f:=qbD)) | (go_at_call_of 37 (Value.int IntKind.i64 2);refine(Fp g _ _ _ Ab AQ AQ AQ).mono ?_;rintro e w3 ⟨x,rfl,R,Q,j,c⟩;obtain⟨hz0,q0,m,q1,l⟩:QbE w3 w.heap.size:=qbE))
 rotate_right 1
 ·go_cut [] (λwc=>∃q L:Stil.CC,Small q/\Small L/\Ig wc g (P+18)/\w.grownBy wc (some g)/\Xz wc w.heap.size 0 AG/\Hi wc z.heap.size q/\Hi wc C.heap.size L)
  case first=>
   go_wp2_with (first | (have _:=O;(go_at_call 71;refine(Y3 g _ _ Ab AQ).mono ?_;rintro e T ⟨L,rfl,Y,j,c⟩;obtain⟨hz0,q0,m,q1,l⟩:QbE T w.heap.size:=qbE;obtain⟨J,u,t,A,B,y,s⟩:QbD T z.heap.size q:=qbD;obtain⟨M,D,F,G,H,E,I⟩:QbD T C.heap.size f:=qbD)) | (go_at_call 71;refine(Y3 g _ _ Ab AQ).mono ?_;rintro e wr ⟨q,rfl,O,j,c⟩;obtain⟨hz0,q0,m,q1,l⟩:QbE wr w.heap.size:=qbE;obtain⟨J,u,t,A,B,y,s⟩:QbD wr z.heap.size d:=qbD;obtain⟨M,D,F,G,H,E,I⟩:QbD wr C.heap.size f:=qbD))
   ·go_meet
    exact⟨q,L,O,Y,A2,A0,BN,BV,BV⟩
   ·go_meet
    exact⟨d,f,aa,Z,A2,A0,BN,BV,BV⟩
  case rest=>
   clear q0 q1 u A y D G E m l t B s F H I j;obtain⟨q,L,O,Y,j,ac,⟨hz0,q0,q1,m,l⟩,⟨J,u,A,y,t,B,s⟩,⟨M,D,G,E,F,H,I⟩⟩:=hcut;go_upto_if 46 with(go_at_call_of 37 (Value.int IntKind.i64 4);refine(Fp g _ _ _ Ab AQ AQ AQ).mono ?_;rintro e U ⟨x,rfl,R,Q,j,c⟩;obtain⟨hz0,q0,m,q1,l⟩:QbE U w.heap.size:=qbE;obtain⟨J,u,t,A,B,y,s⟩:QbD U z.heap.size q:=qbD;obtain⟨M,D,F,G,H,E,I⟩:QbD U C.heap.size L:=qbD)
   go_cut [] (λN=>∃K:Stil.CC,Small K/\Ig N g (P+19)/\w.grownBy N (some g)/\Xz N w.heap.size 0 AG/\Hi N z.heap.size q/\Hi N C.heap.size K)
   case first=>
    go_wp2
    ·go_meet
     exact⟨q,O,A2,A0,BN,BV,BV⟩
    ·go_meet
     exact⟨L,Y,A2,A0,BN,BV,BV⟩
   case rest=>
    clear q0 q1 u A y D G E m l t B s F H I j;obtain⟨K,ab,j,ae,⟨hz0,q0,q1,m,l⟩,⟨J,u,A,y,t,B,s⟩,⟨M,D,G,E,F,H,I⟩⟩:=hcut
    go_wp2
    go_region_with (go_at_call_of 37 (Value.int IntKind.i64 6);refine(Fp g _ _ _ Ab AQ AQ AQ).mono ?_;rintro e S ⟨x,rfl,R,Q,j,c⟩;obtain⟨hz0,q0,m,q1,l⟩:QbE S w.heap.size:=qbE;obtain⟨J,u,t,A,B,y,s⟩:QbD S z.heap.size q:=qbD;obtain⟨M,D,F,G,H,E,I⟩:QbD S C.heap.size K:=qbD)
    all_goals go_wp2
    all_goals
     refine bodyPost_ret (by simp[results,results68,go_sem,q0,q1,hz0];rfl) rfl ?_;refine⟨_,_,[q,K],rfl,by rw[IntKind.wrap_i64];omega,?_,all2 O ab,AU,A2,A0⟩;first | exact Na [q,K] _ AU AQ rfl AU | exact Lm.setAt AQ (Lm.setAt AQ (kL (X:=wc) [q,K] _ ⟨c.os,c.tape,c.output,c.size,c.block⟩ AQ AU AQ rfl AU))
 ·exact zv
 ·exact zv
 ·exact zv
 ·exact zv
 ·exact zv
 ·refine bodyPost_ret (by simp[results,results68,go_sem,q0,q1,hz0];rfl) rfl ?_
  exact⟨_,_,[d,f],rfl,AQ,Na [d,f] _ AU AQ rfl AU,all2 hd hf,AU,A2,A0⟩
def BytesAt (w:World)(v:Value):Prop:=∃(a:Option Addr) (len cap:Nat),v=AE a len cap/\len<=cap/\cap<=9223372036854775807/\∀i,i<len->∃b o z,a=some ⟨b,o,none⟩/\b<w.heap.size/\w.cell? ⟨b,o+i,none⟩=some (.int .u8 z)/\0<=z/\z<256
set_option maxHeartbeats 1000000 in
set_option maxRecDepth 100000 in
theorem fo (v:Value)(w:World)(s:BytesAt w v):
  Calls prog 17 #[v] w λe w'=>e=.returned (AH w.heap.size)/\Ig w' w.heap.size 0/\AO w w':=by
 obtain⟨a,len,cap,rfl,B,x,j⟩:=s;have f:Hid (∀i,i<len->∃b o z,a=some (AK b o)/\b<w.heap.size/\w.cell? (AK b (o+i))=some (.int .u8 z)/\0<=z/\z<256):=j;clear j;have done:∀n c:Nat,n<=len->n<=2000->Ig (w.alloc (.cells #[AE a n c,AB 0] 80)) w.heap.size 0:=by
  intro n c A u;refine⟨a,n,c,0,by simp[go_sem],by simp[go_sem],by simp[go_sem],CG _,u,λi hi=>?_⟩;obtain⟨b,o,z,m,d,t,l,q⟩:=f i AQ;exact⟨b,o,z,m,d,by rw[(Aa w _).cell (p:=(AK b (o+i))) d];exact t,l,q⟩
 by_cases y:2000<len
 ·cases a with
  | none=>obtain⟨b,o,z,h,_⟩:=f 0 AQ;cases h
  | some ad=>
   go_enter func17,ntmps17
   go_wp2
   go_ret;exact⟨rfl,done _ _ AQ AQ,Aa _ _⟩
 ·go_enter func17,ntmps17
  go_wp2
  go_ret;exact⟨rfl,done _ _ AQ AQ,Aa _ _⟩
open Go.ChangeShapes Go.WideShapes Go.ChangeAt
theorem nQ:prog.cellsOf 3=1:=AX
theorem lt_of_cell {b:Nat}(h:W.cell? (AK b o)=some v):b<W.heap.size:=by
 unfold World.cell? at h;cases a:W.heap[b]? with
 | none=>simp[a] at h
 | some x=>exact(Array.getElem?_eq_some_iff.1 a).1
open Stil
theorem QX {P:Program}:∀{l:List (String × DataW Unit)} {c:List MemPlace},DataW.LaidVars P W l c->∀{n:String} {d:DataW Unit},(n,d)∈l->
  ∃g t a fuel p,P.globalNamed n=some g/\(P.globals[g]?).map (·.type)=some t/\W.var? P n=some a/\DataW.trod (λ_=>()) P W 0 (λ_=>true) false fuel t a.toList=some (d,p)
 | [],_,_,_,_,b=>absurd b AU
 | (w,x)::r,c,⟨g,t,a,fuel,p,q,s,u,m,i,j,_⟩,n,d,b=>by
  rcases List.mem_cons.1 b with e | f
  ·obtain⟨rfl,rfl⟩:=IF e
   exact⟨g,t,a,fuel,p,s,u,m,i⟩
  ·exact QX j f
def MO (k:Nat):DataW Unit:=.agg [.lit (.string (Ri k).data.toList), .lit (.int .i64 (Jd k)), .lit (.bool (Zw k)), .lit (.bool (Qn k)), .lit (.bool (U9 k))]
theorem S3:prog.globalNamed "loop.example/stilway/impl.devRows" =some 2:=AX
theorem Az3:(prog.globals[2]?).map (·.type)=some 211:=AX
theorem oS:prog.cellsOf 205=5:=AX
theorem NH:prog.cellsOf 4=1:=AX
theorem RS:prog.cellsOf 9=1:=AX
theorem Zs {s:ByteArray}{b:ByteArray}(h:s.data.toList=b.data.toList):s=b:=by
 cases s;cases b;simp at h;rw[h]
theorem uW {cs:Array Value}{p:List MemPlace}(hv:W.var? prog "loop.example/stilway/impl.devRows" =some cs)
  (hd:DataW.trod (λ_=>()) prog W 0 (λ_=>true) false fuel 211 cs.toList=some (.agg ((List.range 14).map MO),p)):Et W:=by
 have V:=λj=>World.var?_cell S3 hv j
 obtain⟨A,m,_,X,aa,hl,Y⟩:=DataW.trod_array underlying211 hd;have N:=DataW.agg.inj (IF X).1;have y:∀k:Nat,k<14->W.cell? ⟨2,k*5,none⟩=some (.string (Ri k))/\W.cell? ⟨2,k*5+1,none⟩=some (.int .i64 (Jd k))/\W.cell? ⟨2,k*5+2,none⟩=some (.bool (Zw k))/\W.cell? ⟨2,k*5+3,none⟩=some (.bool (Qn k))/\W.cell? ⟨2,k*5+4,none⟩=some (.bool (U9 k)):=by
  intro k B;have z:k<A.length:=AQ
  have D:=Y k B;rw[oS,DX z] at D;have e2:A[k].1=MO k:=by
   have:=congrArg (λl=>l[k]?) N
   simp only[JK,DX z,JM] at this;rw[DX (by simpa using B)] at this;simpa using(DG this).symm
  obtain⟨q,n,_,ey,ab,M,a⟩:=DataW.trod_struct underlying205 D;have w:q.map (·.1)=[.lit (.string (Ri k).data.toList), .lit (.int .i64 (Jd k)), .lit (.bool (Zw k)), .lit (.bool (Qn k)), .lit (.bool (U9 k))]:=by
   have C:=congrArg Prod.fst ey;rw[e2,MO] at C;exact(DataW.agg.inj C).symm
  obtain⟨d,b,f,c,i,rfl⟩:∃d b f c i,q=[d,b,f,c,i]:=by
   match q,M with
   | [d,b,f,c,i],_=>exact⟨_,_,_,_,_,rfl⟩
  simp only[CP,C3,List.cons.injEq,E0] at w;obtain⟨t,x,u,s,E⟩:=w;have H:DataW.trod (λ_=>()) prog W 0 (λ_=>true) false n 9 (List.take 1 (List.drop 0 (List.take 5 (List.drop (k*5) cs.toList))))=some d:=by
   have h:DataW.trod (λ_=>()) prog W 0 (λ_=>true) false n 9 (List.take (prog.cellsOf 9) (List.drop 0 (List.take 5 (List.drop (k*5) cs.toList))))=some d:=a 0 _ rfl;rw[RS] at h;exact h
  have Z:DataW.trod (λ_=>()) prog W 0 (λ_=>true) false n 3 (List.take 1 (List.drop 1 (List.take 5 (List.drop (k*5) cs.toList))))=some b:=by
   have h:DataW.trod (λ_=>()) prog W 0 (λ_=>true) false n 3 (List.take (prog.cellsOf 3) (List.drop 1 (List.take 5 (List.drop (k*5) cs.toList))))=some b:=a 1 _ rfl;rw[nQ] at h;exact h
  have P:DataW.trod (λ_=>()) prog W 0 (λ_=>true) false n 4 (List.take 1 (List.drop 2 (List.take 5 (List.drop (k*5) cs.toList))))=some f:=by
   have h:DataW.trod (λ_=>()) prog W 0 (λ_=>true) false n 4 (List.take (prog.cellsOf 4) (List.drop 2 (List.take 5 (List.drop (k*5) cs.toList))))=some f:=a 2 _ rfl;rw[NH] at h;exact h
  have S:DataW.trod (λ_=>()) prog W 0 (λ_=>true) false n 4 (List.take 1 (List.drop 3 (List.take 5 (List.drop (k*5) cs.toList))))=some c:=by
   have h:DataW.trod (λ_=>()) prog W 0 (λ_=>true) false n 4 (List.take (prog.cellsOf 4) (List.drop 3 (List.take 5 (List.drop (k*5) cs.toList))))=some c:=a 3 _ rfl;rw[NH] at h;exact h
  have R:DataW.trod (λ_=>()) prog W 0 (λ_=>true) false n 4 (List.take 1 (List.drop 4 (List.take 5 (List.drop (k*5) cs.toList))))=some i:=by
   have h:DataW.trod (λ_=>()) prog W 0 (λ_=>true) false n 4 (List.take (prog.cellsOf 4) (List.drop 4 (List.take 5 (List.drop (k*5) cs.toList))))=some i:=a 4 _ rfl;rw[NH] at h;exact h
  obtain⟨s0,G,O,_⟩:=DataW.trod_string underlying9 H;obtain⟨s1,a1,J,_⟩:=DataW.trod_int underlying3 Z;obtain⟨s2,K,T⟩:=DataW.trod_bool underlying4 P;obtain⟨s3,a3,U⟩:=DataW.trod_bool underlying4 S;obtain⟨s4,L,F⟩:=DataW.trod_bool underlying4 R;subst O J T U F;simp only[DataW.lit.injEq,Lit.string.injEq,Lit.int.injEq,Lit.bool.injEq,true_and] at t x u s E;have I:=Zs t;subst I x u s E;have e:∀(j:Nat) (v:Value),j<5->List.take 1 (List.drop j (List.take 5 (List.drop (k*5) cs.toList)))=[v]->W.cell? ⟨2,k*5+j,none⟩=some v:=by
   intro j v Q h;rw[V];have:=congrArg (λl=>l[0]?) h
   simpa[GN,GO,Q] using this
  exact⟨e 0 _ AQ G,e 1 _ AQ a1,e 2 _ AQ K,e 3 _ AQ a3,e 4 _ AQ L⟩
 refine⟨?_,y⟩;have:=(y 0 AQ).1
 exact lt_of_cell this
theorem sH {l:List (String × DataW Unit)}(h:laidMet prog l W)(e:("loop.example/stilway/impl.devRows",DataW.agg ((List.range 14).map MO))∈l):Et W:=by
 obtain⟨i,a,_,_⟩:=h;obtain⟨g,t,j,fuel,p,c,d,b,f⟩:=QX a e;obtain rfl:=DG (S3.symm.trans c);obtain rfl:=DG (Az3.symm.trans d);exact uW b f
theorem cU8:prog.cellsOf 5=1:=AX
theorem wf_u8 {n:Int}(h:(Lit.int .u8 n).wf=true):0<=n/\n<256:=by
 have:=h
 simp[Lit.wf,IntKind.min,IntKind.max,IntKind.signed,IntKind.bits] at this;omega
theorem rj {H:Type}{enc:TypeId × Value->H}{x:DataW H × List MemPlace}(h:DataW.trod enc prog W 0 (λ_=>true) true fuel 22 [v]=some x):BytesAt W v:=by
 rcases Deep.open_slice underlying22 h with⟨f,_⟩ | ⟨a,len,cap,m,n,D,Pl,f,_,A,s,l,_,t⟩
 ·obtain rfl:v=.slice none 0 0:=by simpa using f
  exact⟨none,0,0,rfl,CG _,AQ,λi h=>absurd h AU⟩
 ·obtain rfl:v=.slice (some a) len cap:=by simpa using f
  have F:len<=m:=by rw[l];split<;>omega
  have each:∀i,i<len->∃z:Int,W.cell? (a.add (i*1))=some (.int .u8 z)/\0<=z/\z<256:=by
   intro i hi;obtain⟨E,d,B⟩:=t i AQ;rw[cU8] at d;obtain⟨_,C,w⟩:=World.cells?_some d;obtain⟨z,c,_,q⟩:=DataW.trod_int underlying5 B;have e:=w 0 AQ;rw[Addr.add_add] at e;rw[c] at e;refine⟨z,by simpa using e,wf_u8 q⟩
  obtain⟨b,o,sp⟩:=a;refine⟨_,len,cap,rfl,A,CJ s AY,λi hi=>?_⟩;obtain⟨z,c,d⟩:=each i hi;have u:sp=none:=by
   obtain⟨y,j,_⟩:=each 0 AQ;simpa[Addr.add] using World.cell?_spot j
  subst u;rw[Addr.add_lit,Nat.mul_one] at c;exact⟨b,o,z,rfl,lt_of_cell c,c,d⟩
theorem etG:prog.globalNamed "errors.errorType" =some 0:=AX
theorem oR:(prog.cutTypes.find? (·.1== "internal/reflectlite.rtype")).map (·.2)=some 160:=AX
theorem nt:((List.range prog.types.size).filter λt=>prog.rowNamed t [101,114,114,111,114])=[109]:=AX
theorem uk (h:handlesMet prog [("errors.errorType",DataW.iface "internal/reflectlite.rtype" (.agg [.ptr (.lit (.string [101,114,114,111,114]))]))] W):Fh W:=by
 obtain⟨name,u,l,c,j,f,m,a⟩:=h _ (List.mem_singleton.2 rfl);have d:=(DG c).symm;subst d;obtain rfl:=DG (oR.symm.trans j);have b:l∈(List.range prog.types.size).filter λt=>prog.rowNamed t [101,114,114,111,114]:=List.mem_filter.2 ⟨List.mem_range.2 f,m⟩
 rw[nt] at b;obtain rfl:=List.mem_singleton.1 b;have i:typeHandle prog 109=.pointer (some (AK 4 109)):=AX
 rw[i] at a;have e:=World.var?_cell etG a 0;unfold Fh;simpa using e
