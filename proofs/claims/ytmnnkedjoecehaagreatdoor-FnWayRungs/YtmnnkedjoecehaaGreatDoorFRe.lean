import Derived.Test.YtmnnkedjoecehaaGreatDoorD8
import Derived.OpenVars
import Derived.LaidMore
import Derived.Lay
import Derived.Deep.DeepHandedRow
import Derived.Test.YtmnnkedjoecehaaGreatDoorGY
set_option linter.defProp false
set_option maxHeartbeats 2000000
set_option maxRecDepth 100000
namespace Go.Proofs.YtmnnkedjoecehaaGreatDoor
open Tryz Go.RowKit Go.Sort Go.BigFrame
variable {W w':World}{base cap fuel g k n o:Nat}{r:Option Nat}{v:Value}
theorem Fh {w:World}{P:Nat}(h:Ij w g P)(hg:w.grownBy w' r)(hr:∀k,r=some k->g<k):Ij w' g P:=by
 have C:=V8 h;obtain⟨a,len,cap,p,j,x,f,y,m,u⟩:=h;have c:∀b,b<=g->w'.heap[b]?=w.heap[b]?:=λb c=>hg.block b AQ (λe=>by have:=hr b e.symm;omega)
 have d:∀b o,b<=g->w'.cell? (AK b o)=w.cell? (AK b o):=λb o h=>by unfold World.cell?;rw[c b h]
 refine⟨a,len,cap,p,by rw[d _ _ (CG _)];exact j,by rw[d _ _ (CG _)];exact x,by unfold World.frozen? at f ⊢;rw[c g (CG _)];exact f,y,m,λi hi=>?_⟩;obtain⟨b,q,z,s,t,B,A,l⟩:=u i hi;exact⟨b,q,z,s,t,by rw[d _ _ AQ];exact B,A,l⟩
def J8 {w a b:World}{s:Option Nat}(h:w.grownBy a r)(k:a.grownBy b s)(f:∀j,s=some j->w.heap.size<=j):w.grownBy b r:=
 ⟨k.os.trans h.os,k.tape.trans h.tape,k.output.trans h.output,CM h.size k.size,λj c d=>(k.block j (CB c h.size) (λe=>by have:=f j e.symm;omega)).trans (h.block j c d)⟩
theorem R9 {w:World}{f:List Stil.CC}(h:w.ownsRow base 111 3 v f.length (Ar f))(hg:g<base):Lr w g v f:=by
 have hd:=Dj.of_owns h;rcases h.2 with⟨l,A⟩ | ⟨b,cap,cur,d,z,B,u,_⟩
 ·obtain⟨a,c,d,q⟩:=hd
  rw[l] at d;simp only[Value.slice.injEq] at d;obtain⟨rfl,s,rfl⟩:=d;exact⟨none,0,by rw[l,s],⟨AQ,λ_=>rfl⟩,λi hi=>absurd hi AQ⟩
 ·obtain⟨a,c,t,q⟩:=hd
  have e:=d.symm.trans t;simp only[Value.slice.injEq] at e;obtain⟨rfl,_,rfl⟩:=e;refine⟨_,cap,d,⟨u,λh=>by cases h⟩,λi hi=>?_⟩;obtain⟨m,o,j,y,x⟩:=q i hi;have:m=b:=by simp only[C0,Addr.mk.injEq] at j;exact j.1.symm
  exact⟨m,o,j,AQ,y,x⟩
theorem ZP {w:World}{a:List Stil.CC}(b:a.length=n)(h:w.ownsRow base 111 3 v n (Ar a))(hg:g<base):Lr w g v a:=by
 subst b;exact R9 h hg
theorem kP {w:World}{b:Nat}{l:List Stil.CC}(h:Lr w g (AE (some (AK b o)) n cap) l):∀j u,(Ar l)[j]?=some u->w.cell? (((AK b o):Addr).add j)=some u:=by
 intro j u f;obtain⟨a,c,m,_,x⟩:=h;simp only[Value.slice.injEq] at m;obtain⟨rfl,rfl,rfl⟩:=m;have C:j<l.length*3:=by rw[<-Kv];exact(List.getElem?_eq_some_iff.1 f).1
 obtain⟨D,E,q,_,_,B,z,t⟩:=x (j / 3) AQ;simp only[C0,Addr.mk.injEq,FG] at q;obtain⟨rfl,rfl⟩:=q;obtain⟨A,s,y⟩:=Nw l (j / 3) AQ;rw[Addr.add_lit];have i:j % 3=0\/j % 3=1\/j % 3=2:=AQ
 rcases i with i | i | i
 ·have e:j=j / 3*3:=by omega
  have d:o+j=o+j / 3*3:=AQ
  rw[d,B,<-A,<-e];exact f
 ·have e:j=j / 3*3+1:=by omega
  have d:o+j=o+j / 3*3+1:=AQ
  rw[d,z,<-s,<-e];exact f
 ·have e:j=j / 3*3+2:=by omega
  have d:o+j=o+j / 3*3+2:=AQ
  rw[d,t,<-y,<-e];exact f
theorem Cb {w:World}{e:TypeId}{size:Nat}{xs:List Value}(h:w.ownsRow base e size v n xs)(hg:w.grownBy w' (some g))(f:g<base):w'.ownsRow base e size v n xs:=by
 refine⟨h.1,?_⟩;rcases h.2 with d | ⟨k,cap,cur,hv,c,a,b⟩
 ·exact Or.inl d
 ·have:=(h.lt k yEh).2
  exact Or.inr ⟨k,cap,cur,hv,c,by rw[hg.block k this (by intro e;cases e;omega)];exact a,b⟩
theorem UA:∀(a:List Stil.CC) (k:Nat) (d:Stil.CC),k<a.length->(((Ar a).set (k*3) (AB d.kind)).set (k*3+1) (AB d.n)).set (k*3+2) (AB d.p)=Ar (a.set k d)
 | [],k,d,h=>by simp at h
 | c::r,0,d,_=>rfl
 | c::r,k+1,d,h=>by
  have e:Ar (c::r)=AB c.kind::AB c.n::AB c.p::Ar r:=rfl;have f:Ar ((c::r).set (k+1) d)=AB c.kind::AB c.n::AB c.p::Ar (r.set k d):=rfl;have b:(k+1)*3=k*3+1+1+1:=AQ
  rw[e,f,b,<-UA r k d BV];rfl
theorem XV {w:World}{b:Nat}{a:List Stil.CC}(h:w.ownsRow base 111 3 (AE (some (AK b 0)) n cap) n (Ar a))(d:Stil.CC)(c:k<a.length):
  (((w.setCell (AK b (k*3)) (AB d.kind)).setCell (AK b (k*3+1)) (AB d.n)).setCell (AK b (k*3+2)) (AB d.p)).ownsRow base 111 3 (AE (some (AK b 0)) n cap) n (Ar (a.set k d)):=by
 rw[<-UA a k d c];exact(((h.stored (k*3) _).1.stored (k*3+1) _).1.stored (k*3+2) _).1
theorem ML {w:World}{b:Nat}{a:List Stil.CC}(h:w.ownsRow base 111 3 (AE (some (AK b 0)) a.length cap) a.length (Ar a))(j:k<a.length):
  w.cell? (AK b (k*3))=some (AB a[k].kind)/\w.cell? (AK b (k*3+1))=some (AB a[k].n)/\w.cell? (AK b (k*3+2))=some (AB a[k].p)/\w.frozen? (AK b (k*3))=false/\w.frozen? (AK b (k*3+1))=false/\w.frozen? (AK b (k*3+2))=false:=by
 obtain⟨g,c,e,_,_,_,d⟩:=Bg h AQ;simp only[Value.slice.injEq,C0,Addr.mk.injEq] at e;obtain⟨⟨rfl,_⟩,_⟩:=e;obtain⟨l,i,f⟩:=Nw a k j;exact⟨d _ _ l,d _ _ i,d _ _ f,h.frozenAt _,h.frozenAt _,h.frozenAt _⟩
def nW (w:World)(g:Nat):Lr w g AG []:=⟨none,0,rfl,⟨CG _,λ_=>rfl⟩,λi hi=>by simp at hi⟩
theorem OZ {a:List Stil.CC}(h:∀d∈a,Small d)(k:Nat)(d:Stil.CC)(hd:Small d):∀x∈a.set k d,Small x:=λx c=>by
 rcases M5 c with b | rfl
 ·exact h x b
 ·exact hd
theorem YA (g P:Nat)(op:Int)(v:Value)(c:List Stil.CC)(w:World)(hr:Ij w g P)(hP:P<=1000000000)(aa:-1000000<=op/\op<=1000000)(hv:Lr w g v c)(hs:∀d∈c,Small d)(hl:c.length<=50000):
  Calls prog 80 #[AH g, .agg #[AB op,v]] w λe w'=>NM e w w' g (P+20) (c.length+1):=by
 obtain⟨i0,hi,A,G,ac⟩:=info_parts P3;have hg:=V8 hr;have HV:Hid (∀W,w.grownBy W (some g)->Lr W g v c):=λW h=>hv.grown h (CG _)
 have L:Hid (∀d∈c,Small d):=hs;obtain⟨a,cap,rfl,⟨az,ax⟩,hx⟩:=hv;have U:Hid (∀i (h:i<c.length),∃b o,a=some (AK b o)/\g<b/\b<w.heap.size/\Ju w b (o+i*3) c[i]):=hx;clear hx hs;go_enter func80,ntmps80;go_upto_region 1 with fail
 go_cut [5] (λs5 wc=>∃b D,s5=AE (some (AK b 0)) c.length D/\wc.ownsRow (w.heap.size+2) 111 3 (AE (some (AK b 0)) c.length D) c.length (Ar c)/\Ij wc g P/\w.grownBy wc (some g)/\Yg wc w.heap.size op (AE a c.length cap)/\Yg wc (w.heap.size+1) 0 AG)
 case first=>
  cases a with
  | none=>
   obtain rfl:c=[]:=by
    cases c with
    | nil=>rfl
    | cons d r=>obtain⟨b,o,h,_⟩:=U 0 AU;cases h
   obtain rfl:=ax rfl
   go_wp2
   go_meet;have q:=World.ownsRow_lit (base:=w.heap.size+2) (e:=111) (size:=3) ((w.alloc (.cells #[AB op,AG] 46)).alloc (.cells #[AB 0,AG] 46)) #[] 0 AU A6 rfl;exact⟨w.heap.size+1+1,0,rfl,by simpa[Ar] using q,A3,A2,BO,BO⟩
  | some ad=>
   have HN:Hid (∀W,w.grownBy W (some g)->∀j u,(Ar c)[j]?=some u->W.cell? (ad.add j)=some u):=by
    intro W hW j u H;by_cases hd:c=[]
    ·subst hd;simp[Ar] at H
    ·obtain⟨b,o,h,_⟩:=U 0 (by cases c with | nil=>exact absurd rfl hd | cons d r=>simp)
     cases h;exact kP (HV W hW) j u H
   have q:=World.ownsRow_lit (base:=w.heap.size+2) (e:=111) (size:=3) ((w.alloc (.cells #[AB op,AE (some ad) c.length cap] 46)).alloc (.cells #[AB 0,AG] 46)) #[] 0 AU A6 rfl;have au:((((w.alloc (.cells #[AB op,AE (some ad) c.length cap] 46)).alloc (.cells #[AB 0,AG] 46)).alloc (.cells #[] 111))).ownsRow (w.heap.size+2) 111 3 (AE (some (AK (w.heap.size+1+1) 0)) 0 0) 0 []:=by simpa using q
   clear q
   go_wp2_with (at_builtin;refine wpList_append_own _ rfl _ _ 44 rfl (w.heap.size+2) 111 i0 (.agg #[AB 0,AB 0,AB 0]) 3 24 underlying44 hi A G ac rfl AY _ _ _ rfl au ad c.length cap (Ar c) rfl (Kv _) (HN _ A2) (Xo _) A6 AQ AU ?_)
   intro v' w3 ak ab ag;have O:((((w.alloc (.cells #[AB op,AE (some ad) c.length cap] 46)).alloc (.cells #[AB 0,AG] 46)).alloc (.cells #[] 111))).grownBy w3 (some (w.heap.size+1+1)):=ab;obtain⟨b,D,rfl⟩:∃b D,v'=.slice (some (AK b 0)) c.length D:=by
    rcases ak.2 with⟨h0,h1⟩ | ⟨b,D,cur,h0,_⟩
    ·exact absurd h0 ag
    ·exact⟨b,D,h0⟩
   clear ab ag
   go_wp2
   go_meet;refine⟨b,D,rfl,ak,Fh (Ci (Ci (Ci hr _) _) _) O yEb,J8 (Ei (Ei (Ei (Pj _ _) _) _) _) O yEb,Yg.grown ?_ O AQ,Yg.grown ?_ O AQ⟩
   ·exact BO
   ·exact BO
 case rest=>
  obtain⟨b,D,rfl,N,t,af,⟨aj,z,q1,B,C⟩,⟨ap,l,m,E,F⟩⟩:=hcut;clear HV U;have ay:w.heap.size+2<=b/\b<wc.heap.size:=N.lt b rfl;obtain⟨aG,aI⟩:=ay;go_upto_if 37 with(first | (go_at_call_of 24 (Value.int IntKind.i64 6);refine(Fv g _ _ _ Av AQ AQ AQ).mono ?_;rintro e w3 ⟨x,rfl,ao,ar,t,Q⟩;obtain⟨A,z,B,q1,C⟩:GL w3 w.heap.size (AB op) (AE a c.length cap):=qb2;obtain⟨G,l,E,m,F⟩:QbE w3 ((w.heap.size+1)):=qbE) | (go_at_call_of 46 (10:Nat);refine(FA g _ _ _ [-1,0,1,5,11,20,21,26,37,38] _ Av AQ (Dp (by simp[Gn,go_sem])) AU BU AU AU).mono ?_;rintro e w4 ⟨y,rfl,J,t,bF⟩;simp only[C7,EA,DR] at J;obtain⟨A,z,B,q1,C⟩:GL w4 w.heap.size (AB op) (AE a c.length cap):=qb2;obtain⟨G,l,E,m,F⟩:QbE w4 ((w.heap.size+1)):=qbE))
  ·have q:=Cb ((Cb N Q AQ).alloc _) bF AQ
   refine bodyPost_ret (by simp[results,results80,go_sem,l,m];rfl) rfl ?_;exact⟨_,_,c,rfl,AQ,R9 (ownsRow_setCell_below (ownsRow_setCell_below q (DV _) _) (DV _) _) AQ,L.out,AQ,A3,A2⟩
  ·have q:=Cb N Q AQ
   go_region_law (first | (refine pD rfl _ _ 44 rfl (w.heap.size+2) 111 i0 (.agg #[AB 0,AB 0,AB 0]) 3 24 underlying44 hi BB BB ac rfl AY _ _ _ rfl ((Cb q ⟨s.os,s.tape,s.output,s.size,s.block⟩ AQ).alloc _) _ _ _ (Xp d) rfl rfl (Il _ (Xp d) _ _ AU) (by intro u hu;simp[Xp] at hu;rcases hu with rfl | rfl | rfl<;>rfl) A6 AQ B0 ?_;intro v' I ah S;obtain⟨b6,an,rfl,aA,aF,_,_⟩:=Bg ah AQ;have vH:(K.alloc (.cells #[AB d.kind,AB d.n,AB d.p] 111)).grownBy I (some b):=S;obtain⟨A,z,B,q1,C⟩:GL I w.heap.size (AB op) (AE a c.length cap):=qb2;obtain⟨G,l,E,m,F⟩:QbE I ((w.heap.size+1)):=qbE) | (go_simp;go_at_call 118;refine(eS g _ _ Av AQ).mono ?_;rintro e K ⟨d,rfl,hd,t,s⟩;have aB:w3.heap.size<=K.heap.size:=s.size;obtain⟨A,z,B,q1,C⟩:GL K w.heap.size (AB op) (AE a c.length cap):=qb2;obtain⟨G,l,E,m,F⟩:QbE K ((w.heap.size+1)):=qbE))
   all_goals go_wp2
   all_goals
    have aD:=Fh (Ci t _) vH yEb;have aH:w.grownBy I (some g):=J8 (Ei (Ed (Ed af Q) ⟨s.os,s.tape,s.output,s.size,s.block⟩) _) vH yEb;have bV:I.ownsRow (w.heap.size+2) 111 3 (AE (some (AK b6 0)) (c.length+1) an) (c.length+1) (Ar (c++[d])):=by rw[qR];exact ah
    refine bodyPost_ret (by simp[results,results80,go_sem,l,m];rfl) rfl ?_;refine⟨_,_,c++[d],rfl,aa,ZP (n:=c.length+1) AU (ownsRow_setCell_below (ownsRow_setCell_below bV (DV _) _) (DV _) _) AQ,?_,AU,A3,A2⟩;intro y J;rcases List.mem_append.1 J with J | J
    ·exact L y J
    ·simp at J;subst J;exact hd
  ·refine bodyPost_ret (by simp[results,results80,go_sem,l,m];rfl) rfl ?_
   exact⟨_,_,[],rfl,aa,nW _ _,AU,AU,A3,A2⟩
  ·have q:=Cb N Q AQ
   have e0:(x==0)=false:=BB
   have e1:(x==1)=false:=BB
   have e2:(x==2)=false:=BB
   rw[e0,e1,e2];go_cut [6] (λ_ wc=>∃M:List Stil.CC,M.length=c.length/\(∀d∈M,Small d)/\wc.ownsRow (w.heap.size+2) 111 3 (AE (some (AK b 0)) c.length D) c.length (Ar M)/\Ij wc g (P+19)/\w.grownBy wc (some g)/\Yg wc w.heap.size op (AE a c.length cap)/\Yg wc (w.heap.size+1) 0 AG)
   case first=>
    by_cases aE:c.length=0
    ·go_wp2
     go_meet;exact⟨c,rfl,L.out,q,A3,A2,BO,BO⟩
    ·go_upto_if 53 with(first | (go_at_call_of 24 (c.length:Nat);refine(Fv g _ _ _ Av AQ AQ AQ).mono ?_;rintro e K ⟨y,rfl,aj,ap,t,s⟩;obtain⟨A,z,B,q1,C⟩:GL K w.heap.size (AB op) (AE a c.length cap):=qb2;obtain⟨G,l,E,m,F⟩:QbE K ((w.heap.size+1)):=qbE;obtain⟨j,rfl⟩:=FW aj;have H:j<c.length:=AQ;have ai:=Cb q s AQ;obtain⟨T,Y,X,Z,s1,s2⟩:=ML ai H) | (go_at_call 119;refine(WR g _ c[j] _ Av AQ (L _ (CJ H))).mono ?_;rintro e I ⟨d,rfl,hd,t,S⟩;have ae:=Cb ai S AQ;obtain⟨T,Y,X,Z,s1,s2⟩:=ML ae H;obtain⟨A,z,B,q1,C⟩:GL I w.heap.size (AB op) (AE a c.length cap):=qb2;obtain⟨G,l,E,m,F⟩:QbE I ((w.heap.size+1)):=qbE) | (go_at_call_of 24 (Value.int IntKind.i64 2);refine(Fv g _ _ _ Av AQ AQ AQ).mono ?_;rintro e w7 ⟨x,rfl,ao,ar,t,aP⟩;have V:=Cb (XV ae d H) aP AQ;have R:j<(c.set j d).length:=(by simpa using H);obtain⟨T,Y,X,Z,s1,s2⟩:=ML (by simpa using V) R;obtain⟨A,z,B,q1,C⟩:GL w7 w.heap.size (AB op) (AE a c.length cap):=qb2;obtain⟨G,l,E,m,F⟩:QbE w7 ((w.heap.size+1)):=qbE))
     go_wp2_with ((go_at_call 118;refine(eS g _ _ Av AQ).mono ?_;rintro e w8 ⟨f,rfl,hf,t,bQ⟩;have al:=Cb V bQ AQ;obtain⟨T,Y,X,Z,s1,s2⟩:=ML (by simpa using al) R;obtain⟨A,z,B,q1,C⟩:GL w8 w.heap.size (AB op) (AE a c.length cap):=qb2;obtain⟨G,l,E,m,F⟩:QbE w8 ((w.heap.size+1)):=qbE))
     ·go_meet
      exact⟨(c.set j d).set j f,AU,OZ (OZ L _ _ hd) _ _ hf,XV al f R,A3,A2,BO,BO⟩
     ·go_meet
      exact⟨c.set j d,AU,OZ L _ _ hd,V,A3,A2,BO,BO⟩
   case rest=>
    clear t z q1 l m B C E F;obtain⟨M,av,aw,q,t,af,⟨A,z,q1,B,C⟩,⟨G,l,m,E,F⟩⟩:=hcut
    go_wp2
    refine bodyPost_ret (by simp[results,results80,go_sem,l,m];rfl) rfl ?_;exact⟨_,_,M,rfl,aa,ZP av (ownsRow_setCell_below (ownsRow_setCell_below q (DV _) _) (DV _) _) AQ,aw,AQ,A3,A2⟩
def zv {p:Prop}(h:p:=by
 refine bodyPost_ret (by simp[results,results50,go_sem,q0,q1,hz0];rfl) rfl ?_
 exact⟨_,_,[d],rfl,AQ,Nh [d] _ AU AQ rfl AU,all1 hd,AU,A3,A2⟩):p:=h
theorem I5 (g P:Nat)(w:World)(hr:Ij w g P)(hP:P<=1000000000):
  Calls prog 50 #[AH g] w λe w'=>NM e w w' g (P+20) 3:=by
 have hg:=V8 hr;go_enter func50,ntmps50;go_upto_if 39 with(first | (go_at_call_of 24 (Value.int IntKind.i64 8);refine(Fv g _ _ _ Av AQ AQ AQ).mono ?_;rintro e w0 ⟨x,rfl,Q,R,j,c⟩;obtain⟨hz0,q0,l,q1,m⟩:QbE w0 w.heap.size:=qbE) | (go_at_call 79;refine(ki g _ _ Av AQ).mono ?_;rintro e w1 ⟨d,rfl,hd,j,c⟩;obtain⟨hz0,q0,l,q1,m⟩:QbE w1 w.heap.size:=qbE) | (go_at_call 74;refine(Pv g _ _ _ Av AQ AQ AQ).mono ?_;rintro e w2 ⟨f,rfl,hf,j,c⟩;obtain⟨hz0,q0,l,q1,m⟩:QbE w2 w.heap.size:=qbE) | (have _:=Z;(go_at_call 75;refine(V4 g _ _ Av AQ).mono ?_;rintro e u ⟨f,rfl,aa,j,c⟩;obtain⟨hz0,q0,l,q1,m⟩:QbE u w.heap.size:=qbE;obtain⟨L,y,s,z,t,B,A⟩:QbD u C.heap.size d:=qbD)) | (go_at_call 75;refine(V4 g _ _ Av AQ).mono ?_;rintro e C ⟨d,rfl,Z,j,c⟩;obtain⟨hz0,q0,l,q1,m⟩:QbE C w.heap.size:=qbE) | (have _:=aa;(go_at_call_of 24 (Value.int IntKind.i64 2);refine(Fv g _ _ _ Av AQ AQ AQ).mono ?_;rintro e Y ⟨x,rfl,Q,R,j,c⟩;obtain⟨hz0,q0,l,q1,m⟩:QbE Y w.heap.size:=qbE;obtain⟨L,y,s,z,t,B,A⟩:QbD Y C.heap.size d:=qbD;obtain⟨M,H,E,D,F,G,I⟩:QbD Y u.heap.size f:=qbD)) | (go_at_call_of 24 (Value.int IntKind.i64 2);refine(Fv g _ _ _ Av AQ AQ AQ).mono ?_;rintro e w3 ⟨x,rfl,Q,R,j,c⟩;obtain⟨hz0,q0,l,q1,m⟩:QbE w3 w.heap.size:=qbE))
 rotate_right 1
 ·go_cut [] (λwc=>∃q J:Stil.CC,Small q/\Small J/\Ij wc g (P+18)/\w.grownBy wc (some g)/\Yg wc w.heap.size 0 AG/\IJ wc C.heap.size q/\IJ wc u.heap.size J)
  case first=>
   go_wp2_with (first | (have _:=N;(go_at_call 76;refine(Zj g _ _ Av AQ).mono ?_;rintro e U ⟨J,rfl,T,j,c⟩;obtain⟨hz0,q0,l,q1,m⟩:QbE U w.heap.size:=qbE;obtain⟨L,y,s,z,t,B,A⟩:QbD U C.heap.size q:=qbD;obtain⟨M,H,E,D,F,G,I⟩:QbD U u.heap.size f:=qbD)) | (go_at_call 76;refine(Zj g _ _ Av AQ).mono ?_;rintro e wr ⟨q,rfl,N,j,c⟩;obtain⟨hz0,q0,l,q1,m⟩:QbE wr w.heap.size:=qbE;obtain⟨L,y,s,z,t,B,A⟩:QbD wr C.heap.size d:=qbD;obtain⟨M,H,E,D,F,G,I⟩:QbD wr u.heap.size f:=qbD))
   ·go_meet
    exact⟨q,J,N,T,A3,A2,BO,BW,BW⟩
   ·go_meet
    exact⟨d,f,Z,aa,A3,A2,BO,BW,BW⟩
  case rest=>
   clear q0 q1 y z B H D G l m s t A E F I j;obtain⟨q,J,N,T,j,ac,⟨hz0,q0,q1,l,m⟩,⟨L,y,z,B,s,t,A⟩,⟨M,H,D,G,E,F,I⟩⟩:=hcut;go_upto_if 46 with(go_at_call_of 24 (Value.int IntKind.i64 4);refine(Fv g _ _ _ Av AQ AQ AQ).mono ?_;rintro e S ⟨x,rfl,Q,R,j,c⟩;obtain⟨hz0,q0,l,q1,m⟩:QbE S w.heap.size:=qbE;obtain⟨L,y,s,z,t,B,A⟩:QbD S C.heap.size q:=qbD;obtain⟨M,H,E,D,F,G,I⟩:QbD S u.heap.size J:=qbD)
   go_cut [] (λO=>∃K:Stil.CC,Small K/\Ij O g (P+19)/\w.grownBy O (some g)/\Yg O w.heap.size 0 AG/\IJ O C.heap.size q/\IJ O u.heap.size K)
   case first=>
    go_wp2
    ·go_meet
     exact⟨q,N,A3,A2,BO,BW,BW⟩
    ·go_meet
     exact⟨J,T,A3,A2,BO,BW,BW⟩
   case rest=>
    clear q0 q1 y z B H D G l m s t A E F I j;obtain⟨K,ab,j,ae,⟨hz0,q0,q1,l,m⟩,⟨L,y,z,B,s,t,A⟩,⟨M,H,D,G,E,F,I⟩⟩:=hcut
    go_wp2
    go_region_with (go_at_call_of 24 (Value.int IntKind.i64 6);refine(Fv g _ _ _ Av AQ AQ AQ).mono ?_;rintro e V ⟨x,rfl,Q,R,j,c⟩;obtain⟨hz0,q0,l,q1,m⟩:QbE V w.heap.size:=qbE;obtain⟨L,y,s,z,t,B,A⟩:QbD V C.heap.size q:=qbD;obtain⟨M,H,E,D,F,G,I⟩:QbD V u.heap.size K:=qbD)
    all_goals go_wp2
    all_goals
     refine bodyPost_ret (by simp[results,results50,go_sem,q0,q1,hz0];rfl) rfl ?_;refine⟨_,_,[q,K],rfl,by rw[IntKind.wrap_i64];omega,?_,all2 N ab,AU,A3,A2⟩;first | exact Nh [q,K] _ AU AQ rfl AU | exact Lr.setAt AQ (Lr.setAt AQ (kU (X:=wc) [q,K] _ ⟨c.os,c.tape,c.output,c.size,c.block⟩ AQ AU AQ rfl AU))
 ·exact zv
 ·exact zv
 ·exact zv
 ·exact zv
 ·exact zv
 ·refine bodyPost_ret (by simp[results,results50,go_sem,q0,q1,hz0];rfl) rfl ?_
  exact⟨_,_,[d,f],rfl,AQ,Nh [d,f] _ AU AQ rfl AU,all2 hd hf,AU,A3,A2⟩
def BytesAt (w:World)(v:Value):Prop:=∃(a:Option Addr) (len cap:Nat),v=AE a len cap/\len<=cap/\cap<=9223372036854775807/\∀i,i<len->∃b o z,a=some ⟨b,o,none⟩/\b<w.heap.size/\w.cell? ⟨b,o+i,none⟩=some (.int .u8 z)/\0<=z/\z<256
theorem gp (v:Value)(w:World)(t:BytesAt w v):
  Calls prog 10 #[v] w λe w'=>e=.returned (AH w.heap.size)/\Ij w' w.heap.size 0/\AO w w':=by
 obtain⟨a,len,cap,rfl,B,y,j⟩:=t;have d:Hid (∀i,i<len->∃b o z,a=some (AK b o)/\b<w.heap.size/\w.cell? (AK b (o+i))=some (.int .u8 z)/\0<=z/\z<256):=j;clear j;have done:∀n c:Nat,n<=len->n<=2000->Ij (w.alloc (.cells #[AE a n c,AB 0] 55)) w.heap.size 0:=by
  intro n c x l;refine⟨a,n,c,0,by simp[go_sem],by simp[go_sem],by simp[go_sem],CG _,l,λi hi=>?_⟩;obtain⟨b,o,z,s,f,m,q,u⟩:=d i AQ;exact⟨b,o,z,s,f,by rw[(Aa w _).cell (p:=(AK b (o+i))) f];exact m,q,u⟩
 by_cases A:2000<len
 ·cases a with
  | none=>obtain⟨b,o,z,h,_⟩:=d 0 AQ;cases h
  | some ad=>
   go_enter func10,ntmps10
   go_wp2
   go_ret;exact⟨rfl,done _ _ AQ AQ,Aa _ _⟩
 ·go_enter func10,ntmps10
  go_wp2
  go_ret;exact⟨rfl,done _ _ AQ AQ,Aa _ _⟩
open Go.ChangeShapes Go.WideShapes Go.ChangeAt
def nZ:prog.cellsOf 3=1:=AX
theorem lt_of_cell {b:Nat}(h:W.cell? (AK b o)=some v):b<W.heap.size:=by
 unfold World.cell? at h;cases a:W.heap[b]? with
 | none=>simp[a] at h
 | some x=>exact(Array.getElem?_eq_some_iff.1 a).1
open Stil
theorem QZ {P:Program}:∀{l:List (String × DataW Unit)} {c:List MemPlace},DataW.LaidVars P W l c->∀{n:String} {d:DataW Unit},(n,d)∈l->
  ∃g t a fuel p,P.globalNamed n=some g/\(P.globals[g]?).map (·.type)=some t/\W.var? P n=some a/\DataW.trod (λ_=>()) P W 0 (λ_=>true) false fuel t a.toList=some (d,p)
 | [],_,_,_,_,b=>absurd b AU
 | (x,w)::r,c,⟨g,t,a,fuel,p,q,i,f,j,s,u,_⟩,n,d,b=>by
  rcases List.mem_cons.1 b with e | m
  ·obtain⟨rfl,rfl⟩:=IW e
   exact⟨g,t,a,fuel,p,i,f,j,s⟩
  ·exact QZ u m
def MX (k:Nat):DataW Unit:=.agg [.lit (.string (Rt k).data.toList), .lit (.int .i64 (I9 k)), .lit (.bool (GQ k)), .lit (.bool (Qw k)), .lit (.bool (Vm k))]
def TA:prog.globalNamed "loop.example/stilway/impl.devRows" =some 2:=AX
def fD:(prog.globals[2]?).map (·.type)=some 210:=AX
def oY:prog.cellsOf 204=5:=AX
def NP:prog.cellsOf 4=1:=AX
def SB:prog.cellsOf 9=1:=AX
theorem eG {s:ByteArray}{b:ByteArray}(h:s.data.toList=b.data.toList):s=b:=by
 cases s;cases b;simp at h;rw[h]
theorem tP {cs:Array Value}{p:List MemPlace}(T:W.var? prog "loop.example/stilway/impl.devRows" =some cs)
  (hd:DataW.trod (λ_=>()) prog W 0 (λ_=>true) false fuel 210 cs.toList=some (.agg ((List.range 14).map MX),p)):Ep W:=by
 have Y:=λj=>World.var?_cell TA T j
 obtain⟨t,m,_,P,ab,hl,J⟩:=DataW.trod_array underlying210 hd;have e1:=DataW.agg.inj (IW P).1;have C:∀k:Nat,k<14->W.cell? (AK 2 (k*5))=some (.string (Rt k))/\W.cell? (AK 2 (k*5+1))=some (AB (I9 k))/\W.cell? (AK 2 (k*5+2))=some (.bool (GQ k))/\W.cell? (AK 2 (k*5+3))=some (.bool (Qw k))/\W.cell? (AK 2 (k*5+4))=some (.bool (Vm k)):=by
  intro k u;have x:k<t.length:=AQ
  have A:=J k u;rw[oY,DW x] at A;have e2:t[k].1=MX k:=by
   have:=congrArg (λl=>l[k]?) e1
   simp only[JS,DW x,IX] at this;rw[DW (by simpa using u)] at this;simpa using(DG this).symm
  obtain⟨q,n,_,V,aa,L,e⟩:=DataW.trod_struct underlying204 A;have D:q.map (·.1)=[.lit (.string (Rt k).data.toList), .lit (.int .i64 (I9 k)), .lit (.bool (GQ k)), .lit (.bool (Qw k)), .lit (.bool (Vm k))]:=by
   have s:=congrArg Prod.fst V;rw[e2,MX] at s;exact(DataW.agg.inj s).symm
  obtain⟨c,b,f,a,i,rfl⟩:∃c b f a i,q=[c,b,f,a,i]:=by
   match q,L with
   | [c,b,f,a,i],_=>exact⟨_,_,_,_,_,rfl⟩
  simp only[CQ,C6,List.cons.injEq,FG] at D;obtain⟨w,z,B,y,E⟩:=D;have K:DataW.trod (λ_=>()) prog W 0 (λ_=>true) false n 9 (List.take 1 (List.drop 0 (List.take 5 (List.drop (k*5) cs.toList))))=some c:=by
   have h:DataW.trod (λ_=>()) prog W 0 (λ_=>true) false n 9 (List.take (prog.cellsOf 9) (List.drop 0 (List.take 5 (List.drop (k*5) cs.toList))))=some c:=e 0 _ rfl;rw[SB] at h;exact h
  have R:DataW.trod (λ_=>()) prog W 0 (λ_=>true) false n 3 (List.take 1 (List.drop 1 (List.take 5 (List.drop (k*5) cs.toList))))=some b:=by
   have h:DataW.trod (λ_=>()) prog W 0 (λ_=>true) false n 3 (List.take (prog.cellsOf 3) (List.drop 1 (List.take 5 (List.drop (k*5) cs.toList))))=some b:=e 1 _ rfl;rw[nZ] at h;exact h
  have F:DataW.trod (λ_=>()) prog W 0 (λ_=>true) false n 4 (List.take 1 (List.drop 2 (List.take 5 (List.drop (k*5) cs.toList))))=some f:=by
   have h:DataW.trod (λ_=>()) prog W 0 (λ_=>true) false n 4 (List.take (prog.cellsOf 4) (List.drop 2 (List.take 5 (List.drop (k*5) cs.toList))))=some f:=e 2 _ rfl;rw[NP] at h;exact h
  have Z:DataW.trod (λ_=>()) prog W 0 (λ_=>true) false n 4 (List.take 1 (List.drop 3 (List.take 5 (List.drop (k*5) cs.toList))))=some a:=by
   have h:DataW.trod (λ_=>()) prog W 0 (λ_=>true) false n 4 (List.take (prog.cellsOf 4) (List.drop 3 (List.take 5 (List.drop (k*5) cs.toList))))=some a:=e 3 _ rfl;rw[NP] at h;exact h
  have X:DataW.trod (λ_=>()) prog W 0 (λ_=>true) false n 4 (List.take 1 (List.drop 4 (List.take 5 (List.drop (k*5) cs.toList))))=some i:=by
   have h:DataW.trod (λ_=>()) prog W 0 (λ_=>true) false n 4 (List.take (prog.cellsOf 4) (List.drop 4 (List.take 5 (List.drop (k*5) cs.toList))))=some i:=e 4 _ rfl;rw[NP] at h;exact h
  obtain⟨s0,O,b0,_⟩:=DataW.trod_string underlying9 K;obtain⟨s1,a1,U,_⟩:=DataW.trod_int underlying3 R;obtain⟨s2,M,G⟩:=DataW.trod_bool underlying4 F;obtain⟨s3,a3,Q⟩:=DataW.trod_bool underlying4 Z;obtain⟨s4,I,N⟩:=DataW.trod_bool underlying4 X;subst b0 U G Q N;simp only[DataW.lit.injEq,Lit.string.injEq,Lit.int.injEq,Lit.bool.injEq,true_and] at w z B y E;have S:=eG w;subst S z B y E;have d:∀(j:Nat) (v:Value),j<5->List.take 1 (List.drop j (List.take 5 (List.drop (k*5) cs.toList)))=[v]->W.cell? (AK 2 (k*5+j))=some v:=by
   intro j v H h;rw[Y];have:=congrArg (λl=>l[0]?) h
   simpa[G0,G1,H] using this
  exact⟨d 0 _ AQ O,d 1 _ AQ a1,d 2 _ AQ M,d 3 _ AQ a3,d 4 _ AQ I⟩
 refine⟨?_,C⟩;have:=(C 0 AQ).1
 exact lt_of_cell this
theorem sC {l:List (String × DataW Unit)}(h:laidMet prog l W)(b:("loop.example/stilway/impl.devRows",DataW.agg ((List.range 14).map MX))∈l):Ep W:=by
 obtain⟨i,f,_,_⟩:=h;obtain⟨g,t,j,fuel,p,e,c,a,d⟩:=QZ f b;obtain rfl:=DG (TA.symm.trans e);obtain rfl:=DG (fD.symm.trans c);exact tP a d
def cU8:prog.cellsOf 5=1:=AX
def wf_u8 {n:Int}(h:(Lit.int .u8 n).wf=true):0<=n/\n<256:=by
 have:=h
 simp[Lit.wf,IntKind.min,IntKind.max,IntKind.signed,IntKind.bits] at this;omega
theorem rT {H:Type}{enc:TypeId × Value->H}{x:DataW H × List MemPlace}(h:DataW.trod enc prog W 0 (λ_=>true) true fuel 22 [v]=some x):BytesAt W v:=by
 rcases Deep.open_slice underlying22 h with⟨e,_⟩ | ⟨a,len,cap,m,n,D,Pl,e,_,B,t,q,_,w⟩
 ·obtain rfl:v=.slice none 0 0:=by simpa using e
  exact⟨none,0,0,rfl,CG _,AQ,λi h=>absurd h AU⟩
 ·obtain rfl:v=.slice (some a) len cap:=by simpa using e
  have F:len<=m:=by rw[q];split<;>omega
  have each:∀i,i<len->∃z:Int,W.cell? (a.add (i*1))=some (.int .u8 z)/\0<=z/\z<256:=by
   intro i hi;obtain⟨E,d,j⟩:=w i AQ;rw[cU8] at d;obtain⟨_,C,u⟩:=World.cells?_some d;obtain⟨z,c,_,s⟩:=DataW.trod_int underlying5 j;have f:=u 0 AQ;rw[Addr.add_add] at f;rw[c] at f;refine⟨z,by simpa using f,wf_u8 s⟩
  obtain⟨b,o,sp⟩:=a;refine⟨_,len,cap,rfl,B,CM t AY,λi hi=>?_⟩;obtain⟨z,c,d⟩:=each i hi;have l:sp=none:=by
   obtain⟨y,A,_⟩:=each 0 AQ;simpa[Addr.add] using World.cell?_spot A
  subst l;rw[Addr.add_lit,Nat.mul_one] at c;exact⟨b,o,z,rfl,lt_of_cell c,c,d⟩
def etG:prog.globalNamed "errors.errorType" =some 0:=AX
def oS:(prog.cutTypes.find? (·.1== "internal/reflectlite.rtype")).map (·.2)=some 151:=AX
def nw:((List.range prog.types.size).filter λt=>prog.rowNamed t [101,114,114,111,114])=[87]:=AX
theorem uw (h:handlesMet prog [("errors.errorType",DataW.iface "internal/reflectlite.rtype" (.agg [.ptr (.lit (.string [101,114,114,111,114]))]))] W):Ff W:=by
 obtain⟨name,u,c,i,m,f,l,b⟩:=h _ (List.mem_singleton.2 rfl);have e:=(DG i).symm;subst e;obtain rfl:=DG (oS.symm.trans m);have a:c∈(List.range prog.types.size).filter λt=>prog.rowNamed t [101,114,114,111,114]:=List.mem_filter.2 ⟨List.mem_range.2 f,l⟩
 rw[nw] at a;obtain rfl:=List.mem_singleton.1 a;have d:typeHandle prog 87=.pointer (some (AK 4 87)):=AX
 rw[d] at b;have j:=World.var?_cell etG b 0;unfold Ff;simpa using j
