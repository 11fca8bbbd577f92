import Derived.Test.YtifcnfeppdbjdaaGreatDoorGg
import Derived.Test.YtifcnfeppdbjdaaGreatDoorI3
set_option maxHeartbeats 4000000
set_option maxRecDepth 100000
namespace Go.Proofs.YtifcnfeppdbjdaaGreatDoor
open Tryz Stil Go.RowKit Go.Sort Go.BigFrame
variable {P c g o p:Nat}{W a w':World}{ob:Obj}{r:Option Nat}{v v1 v2 v3:Value}
def Ig (w:World)(g P:Nat):Prop:=∃(a:Option Addr) (len cap p:Nat),w.cell? ⟨g,0,none⟩=some (AE a len cap)/\w.cell? ⟨g,1,none⟩=some (AB p)/\w.frozen? ⟨g,1,none⟩=false/\p<=P/\len<=2000/\
 ∀i,i<len->∃b o z,a=some ⟨b,o,none⟩/\b<g/\w.cell? ⟨b,o+i,none⟩=some (.int .u8 z)/\0<=z/\z<256
theorem Yg (w:World)(g o:Nat)(v:Value):w.grownBy (w.setCell (AK g o) v) (some g):=by
 refine⟨rfl,rfl,rfl,AU,λk d b=>?_⟩;simp only[World.setCell,JG];rw[if_neg (λe=>b (by rw[e]))]
theorem QV {w:World}{a:Option Addr}{len cap:Nat}(l:w.cell? ⟨g,0,none⟩=some (AE a len cap))(e:w.cell? ⟨g,1,none⟩=some (AB p))(k:w.frozen? ⟨g,1,none⟩=false)(t:p<=P)(f:len<=2000)
  (j:∀i,i<len->∃b o z,a=some ⟨b,o,none⟩/\b<g/\w.cell? ⟨b,o+i,none⟩=some (.int .u8 z)/\0<=z/\z<256):
  Ig (w.setCell ⟨g,1,none⟩ (AB ((p:Int)+1))) g (P+1)/\w.grownBy (w.setCell ⟨g,1,none⟩ (AB ((p:Int)+1))) (some g):=by
 refine⟨⟨a,len,cap,p+1,?_,?_,?_,AQ,f,λi hi=>?_⟩,Yg _ _ _ _⟩
 ·simp[go_sem,l]
 ·simp[go_sem,e]
 ·simp[go_sem,k]
 ·obtain⟨b,o,z,d,s,n,m,q⟩:=j i hi
  have x:¬b=g:=AQ
  have u:¬g=b:=AQ
  exact⟨b,o,z,d,s,by simp[go_sem,n],m,q⟩
theorem mZ (a b:Nat)(i:a<4611686018427387904)(j:b<4611686018427387904):∃m:Nat,bits .xor .i64 (a:Int) (b:Int)=(m:Int):=by
 have d:a % 2 ^ 64=a:=Nat.mod_eq_of_lt AQ;have f:b % 2 ^ 64=b:=Nat.mod_eq_of_lt AQ;have k:a ^^^ b<2 ^ 62:=Nat.xor_lt_two_pow (n:=62) AQ AQ;refine⟨a ^^^ b,?_⟩;have e:bits .xor .i64 (a:Int) (b:Int)=IntKind.i64.wrap ((a ^^^ b:Nat):Int):=by
  simp only[bits,BitVec.ofInt_natCast,BitVec.toNat_xor,BitVec.toNat_ofNat];rw[show IntKind.i64.bits=64 from rfl,d,f]
 rw[e,IntKind.wrap_i64];omega
theorem Y5 {w:World}(h:Ig w g P)(n:Nat):Ig (w.drewN n) g P:=h
theorem grown_drewN {w:World}(h:w.grownBy w' (some g))(n:Nat):w.grownBy (w'.drewN n) (some g):=⟨h.os,h.tape,h.output,h.size,h.block⟩
theorem Nq (w:World)(r:Option Nat):w.grownBy w r:=⟨rfl,rfl,rfl,CG _,λ_ _ _=>rfl⟩
theorem VJ {b c:World}(h:a.grownBy b r)(k:b.grownBy c r):a.grownBy c r:=
 ⟨k.os.trans h.os,k.tape.trans h.tape,k.output.trans h.output,CJ h.size k.size,λj d e=>(k.block j (CB d h.size) e).trans (h.block j d e)⟩
theorem grown_below {b:World}(h:AO a b)(r:Option Nat):a.grownBy b r:=⟨h.os,h.tape,h.output,h.size,λk d _=>h.block k d⟩
theorem Fp (g P:Nat)(n:Int)(w:World)(hr:Ig w g P)(X:P<=1000000000000)(Y:n<=1000000)(U:-1000000<=n):
  Calls prog 37 #[AH g,AB n] w λe w'=>∃x:Int,e=.returned (AB x)/\0<=x/\(x<n\/x=0)/\Ig w' g (P+1)/\w.grownBy w' (some g):=by
 obtain⟨a,len,cap,p,u,k,A,s,l,d⟩:=hr;by_cases H:len=0
 ·subst H
  have f:=QV u k A s l d;clear d;go_enter func37,ntmps37
  go_wp2
  all_goals go_ret
  all_goals exact⟨0,rfl,AQ,AQ,f⟩
 by_cases I:n<1
 ·have f:=QV u k A s l d
  have R:((len:Int)==0)=false:=by rw[CS];omega
  have ag:decide (n<1)=true:=by simpa using I
  clear d;go_enter func37,ntmps37
  go_wp2
  go_ret;exact⟨0,rfl,AQ,AQ,f⟩
 ·have R:((len:Int)==0)=false:=by rw[CS];omega
  have f:=QV u k A s l d;by_cases O:p<len
  ·obtain⟨b,o,z,rfl,L,G,K,N⟩:=d p O
   have E:0<=z % n/\z % n<n:=⟨Int.emod_nonneg _ AQ,Int.emod_lt_of_pos _ AQ⟩
   clear d;go_enter func37,ntmps37
   go_wp2
   go_ret;exact⟨_,rfl,E.1,Or.inl E.2,f⟩
  ·obtain⟨b,o,z,rfl,L,G,K,N⟩:=d (p % len) (Nat.mod_lt _ AQ)
   obtain⟨V,o',M,F,_,Q,ac,aa⟩:=d ((p*7+3) % len) (Nat.mod_lt _ AQ);simp only[CZ,Addr.mk.injEq,E0] at F;obtain⟨rfl,rfl⟩:=F;clear d;obtain⟨q,i⟩:=AA (p % len)
   obtain⟨r,hr⟩:=AA ((p*7+3) % len)
   obtain⟨t,j⟩:=AA (p / len)
   have ab:q<len:=by rw[i];exact Nat.mod_lt _ AQ
   have ae:r<len:=by rw[hr];exact Nat.mod_lt _ AQ
   have S:t<=p:=by rw[j];exact Nat.div_le_self _ _
   have af:(p:Int) % (len:Int)=q:=by rw[i];simp
   have T:((p:Int)*7+3) % (len:Int)=r:=by rw[hr];simp
   have Z:(p:Int) / (len:Int)=t:=by rw[j];simp
   rw[<-i] at G;rw[<-hr] at Q;clear i hr j;go_enter func37,ntmps37
   go_wp2
   go_quiet (fail)
   go_wp2
   go_ret;obtain⟨y,B⟩:∃y:Nat,z*131+M*1117+(p:Int)*29+(t:Int)*53=(y:Int):=FP AQ;have J:y<4611686018427387904:=AQ
   obtain⟨m,C⟩:=mZ y (y / 64) J AQ;have D:((y:Int) / 64)=((y / 64:Nat):Int):=AQ
   refine⟨_,rfl,?_,?_,Y5 f.1 _,grown_drewN f.2 _⟩
   ·rw[B,D,C];exact Int.tmod_nonneg _ AQ
   ·left;rw[B,D,C];exact Int.tmod_lt_of_pos _ AQ
theorem Dn {w:World}{b:Nat}(h:w.grownBy w' (some g))(f:b<w.heap.size)(d:b≠g):w'.cell? (AK b o)=w.cell? (AK b o):=by
 unfold World.cell?;rw[h.block b f (by intro e;cases e;exact d rfl)]
theorem G8 {w:World}{b:Nat}(h:w.grownBy w' (some g))(f:b<w.heap.size)(d:b≠g):w'.frozen? (AK b o)=w.frozen? (AK b o):=by
 unfold World.frozen?;rw[h.block b f (by intro e;cases e;exact d rfl)]
theorem Ea {w:World}(h:w.grownBy a r)(o:Obj):w.grownBy (a.alloc o) r:=VJ h (grown_below (Aa a o) r)
theorem rB {w:World}(h:w.grownBy a r)(n:Nat):w.grownBy (a.drewN n) r:=⟨h.os,h.tape,h.output,h.size,h.block⟩
theorem vq {w:World}(h:w.grownBy a r):w.grownBy a.drew r:=⟨h.os,h.tape,h.output,h.size,h.block⟩
theorem Lj {w:World}{p:Addr}(e:w.heap.size<=p.block)(h:w.grownBy a r)(v:Value):w.grownBy (a.setCell p v) r:=
 ⟨h.os,h.tape,h.output,by simpa using h.size,λk b d=>by
  rw[<-h.block k b d];simp only[World.setCell,JG]
  rw[if_neg AQ]⟩
theorem D5 {w b:World}(h:w.grownBy a r)(k:a.grownBy b r):w.grownBy b r:=VJ h k
theorem A0 {w:World}(h:w.grownBy W r:=by(repeat (first | with_reducible exact Nq _ _ | with_reducible assumption | with_reducible refine Lj (by first | exact CG _ | (simp;done) | (simp;omega) | omega) ?_ _ | with_reducible refine Ea ?_ _ | with_reducible refine rB ?_ _ | with_reducible refine vq ?_ | with_reducible refine D5 ?_ (by with_reducible assumption)))):w.grownBy W r:=h
theorem Bl {w:World}(h:Ig w g P)(o:Obj):Ig (w.alloc o) g P:=by
 obtain⟨a,len,cap,p,f,l,u,n,m,t⟩:=h;have e:g<w.heap.size:=by
  unfold World.cell? at f;cases j:w.heap[g]? with
  | none=>simp[j] at f
  | some x=>exact(Array.getElem?_eq_some_iff.1 j).1
 have d:=Aa w o;refine⟨a,len,cap,p,by rw[d.cell (p:=(AK g 0)) e];exact f,by rw[d.cell (p:=(AK g 1)) e];exact l,by rw[d.frozen (p:=(AK g 1)) e];exact u,n,m,λi hi=>?_⟩;obtain⟨b,q,z,k,s,A,y,B⟩:=t i hi;exact⟨b,q,z,k,s,by rw[d.cell (p:=(AK b (q+i))) (by show b<_;omega)];exact A,y,B⟩
theorem Va {w:World}(h:Ig w g P):g<w.heap.size:=by
 obtain⟨a,len,cap,p,d,_⟩:=h;unfold World.cell? at d;cases b:w.heap[g]? with
 | none=>simp[b] at d
 | some x=>exact(Array.getElem?_eq_some_iff.1 b).1
theorem F6 {w:World}{Q:Nat}(h:Ig w g P)(j:P<=Q):Ig w g Q:=by
 obtain⟨a,len,cap,p,f,b,d,i,e⟩:=h;exact⟨a,len,cap,p,f,b,d,AQ,e⟩
theorem J8 {w:World}{b:Nat}(h:Ig w g P)(A:g<b)(v:Value):Ig (w.setCell ⟨b,o,none⟩ v) g P:=by
 obtain⟨a,len,cap,p,l,e,s,j,f,n⟩:=h;have B:¬g=b:=AQ
 have C:¬b=g:=AQ
 refine⟨a,len,cap,p,by simp[go_sem,l],by simp[go_sem,e],by simp[go_sem,s],j,f,λi hi=>?_⟩;obtain⟨c,q,z,d,m,t,u,k⟩:=n i hi;have y:¬c=b:=AQ
 have x:¬b=c:=AQ
 exact⟨c,q,z,d,m,by simp[go_sem,t],u,k⟩
theorem Gm {b:Nat}(h:c≠b):(W.setCell ⟨b,o,none⟩ v).cell? ⟨c,p,none⟩=W.cell? ⟨c,p,none⟩:=by
 have d:¬b=c:=λe=>h e.symm
 simp[go_sem]
theorem Fa {b:Nat}(h:p≠o):(W.setCell ⟨b,o,none⟩ v).cell? ⟨b,p,none⟩=W.cell? ⟨b,p,none⟩:=by
 have d:¬o=p:=λe=>h e.symm
 simp[go_sem]
theorem Hm {b:Nat}{u:Value}(h:W.cell? ⟨b,o,none⟩=some u):(W.setCell ⟨b,o,none⟩ v).cell? ⟨b,o,none⟩=some v:=by
 simp[go_sem,h]
theorem Gw {b:Nat}:(W.setCell ⟨b,o,none⟩ v).frozen? ⟨c,p,none⟩=W.frozen? ⟨c,p,none⟩:=by
 simp[go_sem]
theorem Jv (h:c<W.heap.size):(W.alloc ob).cell? (AK c p)=W.cell? (AK c p):=(Aa W ob).cell (p:=(AK c p)) h
theorem Iw (h:c<W.heap.size):(W.alloc ob).frozen? (AK c p)=W.frozen? (AK c p):=(Aa W ob).frozen (p:=(AK c p)) h
theorem UU {w:World}(h:Ig w g P):Ig w.drew g P:=h
theorem A2 {w:World}(h:Ig w g P:=by(repeat (first | with_reducible assumption | with_reducible refine J8 ?_ (by first | omega | (simp;omega)) _ | with_reducible refine Bl ?_ _ | with_reducible refine Y5 ?_ _ | with_reducible refine UU ?_ | exact F6 (by with_reducible assumption) (by omega)))):Ig w g P:=h
theorem Uh {a:Addr}:W.drew.cell? a=W.cell? a:=rfl
theorem cfA {a:Addr}{o:Option Value}(h:W.cell? a=o:=by(repeat (first | with_reducible assumption | with_reducible refine Uh.trans ?_ | with_reducible refine(Gm (by omega)).trans ?_ | with_reducible refine(Fa (by omega)).trans ?_ | with_reducible refine(Jv BU).trans ?_ | with_reducible apply Hm | (simp[go_sem];done)))):W.cell? a=o:=h
theorem Ot {a:Addr}:W.drew.frozen? a=W.frozen? a:=rfl
theorem ffA {a:Addr}{o:Bool}(h:W.frozen? a=o:=by(repeat (first | with_reducible assumption | with_reducible refine Ot.trans ?_ | with_reducible refine Gw.trans ?_ | with_reducible refine(Iw BU).trans ?_ | (simp[go_sem];done)))):W.frozen? a=o:=h
theorem gcA {w:World}{b:Nat}{v:Option Value}(hg:w.grownBy W (some g))(h1:b<w.heap.size:=by first | with_reducible assumption | (simp;done) | (simp;omega))(h2:b≠g:=by omega)(h3:w.cell? (AK b o)=v:=by(repeat (first | with_reducible assumption | with_reducible refine Uh.trans ?_ | with_reducible refine(Gm (by omega)).trans ?_ | with_reducible refine(Fa (by omega)).trans ?_ | with_reducible refine(Jv BU).trans ?_ | with_reducible apply Hm | (simp[go_sem];done)))):W.cell? (AK b o)=v:=(Dn hg h1 h2).trans h3
theorem gfA {w:World}{b:Nat}{v:Bool}(hg:w.grownBy W (some g))(h1:b<w.heap.size:=by first | with_reducible assumption | (simp;done) | (simp;omega))(h2:b≠g:=by omega)(h3:w.frozen? (AK b o)=v:=by(repeat (first | with_reducible assumption | with_reducible refine Ot.trans ?_ | with_reducible refine Gw.trans ?_ | with_reducible refine(Iw BU).trans ?_ | (simp[go_sem];done)))):W.frozen? (AK b o)=v:=(G8 hg h1 h2).trans h3
theorem jn {w:World}{b:Nat}(d:g<b)(h:Ig w g P):Ig (w.setCell (AK b o) v) g P:=J8 h d v
theorem Ab {w:World}(h:Ig w g P:=by(repeat (first | with_reducible assumption | with_reducible apply Bl | with_reducible apply Y5 | with_reducible apply UU | (with_reducible apply jn;first | omega | (simp;omega))))):Ig w g P:=h
def Fo (W:World)(b:Nat)(v0 v1:Value):Prop:=b<W.heap.size/\W.cell? ⟨b,0,none⟩=some v0/\W.frozen? ⟨b,0,none⟩=false/\W.cell? ⟨b,1,none⟩=some v1/\W.frozen? ⟨b,1,none⟩=false
def D1 (W:World)(b:Nat)(v0 v1 v2:Value):Prop:=b<W.heap.size/\W.cell? ⟨b,0,none⟩=some v0/\W.frozen? ⟨b,0,none⟩=false/\W.cell? ⟨b,1,none⟩=some v1/\W.frozen? ⟨b,1,none⟩=false/\W.cell? ⟨b,2,none⟩=some v2/\W.frozen? ⟨b,2,none⟩=false
def FK (W:World)(b:Nat)(v0 v1 v2 v3:Value):Prop:=b<W.heap.size/\W.cell? ⟨b,0,none⟩=some v0/\W.frozen? ⟨b,0,none⟩=false/\W.cell? ⟨b,1,none⟩=some v1/\W.frozen? ⟨b,1,none⟩=false/\W.cell? ⟨b,2,none⟩=some v2/\W.frozen? ⟨b,2,none⟩=false/\W.cell? ⟨b,3,none⟩=some v3/\W.frozen? ⟨b,3,none⟩=false
def EU (W:World)(b:Nat)(v0 v1 v2 v3 e d:Value):Prop:=b<W.heap.size/\W.cell? ⟨b,0,none⟩=some v0/\W.frozen? ⟨b,0,none⟩=false/\W.cell? ⟨b,1,none⟩=some v1/\W.frozen? ⟨b,1,none⟩=false/\W.cell? ⟨b,2,none⟩=some v2/\W.frozen? ⟨b,2,none⟩=false/\W.cell? ⟨b,3,none⟩=some v3/\W.frozen? ⟨b,3,none⟩=false/\W.cell? ⟨b,4,none⟩=some e/\W.frozen? ⟨b,4,none⟩=false/\W.cell? ⟨b,5,none⟩=some d/\W.frozen? ⟨b,5,none⟩=false
theorem K6 {w:World}{b:Nat}(h:w.grownBy W (some g))(d:b<w.heap.size):b<W.heap.size:=CB d h.size
def QbC (W:World)(b i:Nat)(v:Value):Prop:=W.cell? ⟨b,i,none⟩=some v/\W.frozen? ⟨b,i,none⟩=false
theorem qbC {b i:Nat}(h:W.cell? (AK b i)=some v:=by(refine(Dn (by with_reducible assumption) BU (by omega)).trans ?_;exact cfA))(k:W.frozen? (AK b i)=false:=by(refine(G8 (by with_reducible assumption) BU (by omega)).trans ?_;exact ffA)):QbC W b i v:=⟨h,k⟩
theorem qb2 {b:Nat}{v0:Value}(hz:b<W.heap.size:=by(refine K6 (by with_reducible assumption) ?_;first | with_reducible assumption | (simp;done) | (simp;omega)))(h0:QbC W b 0 v0:=by exact qbC)(h1:QbC W b 1 v1:=by exact qbC):Fo W b v0 v1:=⟨hz,h0.1,h0.2,h1.1,h1.2⟩
theorem qb3 {b:Nat}{v0:Value}(hz:b<W.heap.size:=by(refine K6 (by with_reducible assumption) ?_;first | with_reducible assumption | (simp;done) | (simp;omega)))(h0:QbC W b 0 v0:=by exact qbC)(h1:QbC W b 1 v1:=by exact qbC)(h2:QbC W b 2 v2:=by exact qbC):D1 W b v0 v1 v2:=⟨hz,h0.1,h0.2,h1.1,h1.2,h2.1,h2.2⟩
theorem qb4 {b:Nat}{v0:Value}(hz:b<W.heap.size:=by(refine K6 (by with_reducible assumption) ?_;first | with_reducible assumption | (simp;done) | (simp;omega)))(h0:QbC W b 0 v0:=by exact qbC)(h1:QbC W b 1 v1:=by exact qbC)(h2:QbC W b 2 v2:=by exact qbC)(h3:QbC W b 3 v3:=by exact qbC):FK W b v0 v1 v2 v3:=⟨hz,h0.1,h0.2,h1.1,h1.2,h2.1,h2.2,h3.1,h3.2⟩
theorem qb6 {b:Nat}{v0 v4 v5:Value}(hz:b<W.heap.size:=by(refine K6 (by with_reducible assumption) ?_;first | with_reducible assumption | (simp;done) | (simp;omega)))(h0:QbC W b 0 v0:=by exact qbC)(h1:QbC W b 1 v1:=by exact qbC)(h2:QbC W b 2 v2:=by exact qbC)(h3:QbC W b 3 v3:=by exact qbC)(h4:QbC W b 4 v4:=by exact qbC)(h5:QbC W b 5 v5:=by exact qbC):EU W b v0 v1 v2 v3 v4 v5:=⟨hz,h0.1,h0.2,h1.1,h1.2,h2.1,h2.2,h3.1,h3.2,h4.1,h4.2,h5.1,h5.2⟩
def QbD (W:World)(b:Nat)(d:Stil.CC):Prop:=D1 W b (AB d.kind) (AB d.n) (AB d.p)
theorem qbD {b:Nat}{d:Stil.CC}(h:D1 W b (AB d.kind) (AB d.n) (AB d.p):=by exact qb3):QbD W b d:=h
def QbE (W:World)(b:Nat):Prop:=Fo W b (AB 0) AG
theorem qbE {b:Nat}(h:Fo W b (AB 0) AG:=by exact qb2):QbE W b:=h
def EN (W:World)(b:Nat):Prop:=FK W b (AB 0) (AB 0) AG AG
theorem ET {b:Nat}(h:FK W b (AB 0) (AB 0) AG AG:=by exact qb4):EN W b:=h
def EF (W:World)(b:Nat):Prop:=EU W b (AB 0) (AB 0) AG AG AG AG
theorem EG {b:Nat}(h:EU W b (AB 0) (AB 0) AG AG AG AG:=by exact qb6):EF W b:=h
theorem X9 (g P b cap:Nat)(l:List Int)(w:World)(hr:Ig w g P)(t:P<=1000000000000)(f:I6 w b 0 l)(n:b<w.heap.size)(u:b≠g)(z:1<=l.length)(A:l.length<=1000):
  Calls prog 39 #[AH g,AE (some (AK b 0)) l.length cap] w λe w'=>∃x:Int,e=.returned (AB x)/\x∈l/\Ig w' g (P+1)/\w.grownBy w' (some g):=by
 have s:Hid (I6 w b 0 l):=f;clear f;go_enter func39,ntmps39
 go_wp2_with (go_at_call 37;refine(Fp g P _ _ hr t AQ AQ).mono ?_;rintro e m ⟨x,rfl,q,y,k,d⟩;obtain⟨j,rfl⟩:=FP q;have i:j<l.length:=AQ;have B:m.cell? (AK b j)=some (AB l[j]):=(by rw[Dn d n u];have:=s j i;rwa [CV] at this))
 go_ret;exact⟨_,rfl,CN i,k,d⟩
def Small (d:Stil.CC):Prop:=(-10000000000<=d.kind/\d.kind<=10000000000)/\(-10000000000<=d.n/\d.n<=10000000000)/\(-10000000000<=d.p/\d.p<=10000000000)
theorem Small.fits {d:Stil.CC}(h:Small d):d.fits:=by
 obtain⟨⟨a,b⟩,⟨c,d⟩,⟨e,f⟩⟩:=h;exact⟨⟨AQ,AQ⟩,⟨AQ,AQ⟩,⟨AQ,AQ⟩⟩
theorem KH {k n p:Int}(h:-10000000000<=k/\k<=10000000000/\-10000000000<=n/\n<=10000000000/\-10000000000<=p/\p<=10000000000):Small ⟨k,n,p⟩:=⟨⟨h.1,h.2.1⟩,⟨h.2.2.1,h.2.2.2.1⟩,⟨h.2.2.2.2.1,h.2.2.2.2.2⟩⟩
theorem W8 (k:Int):0<=Jd k/\Jd k<=64:=by
 unfold Jd;split
 ·omega
 ·split
  ·omega
  ·split
   ·omega
   ·split<;>omega
theorem Ph (g P:Nat)(k:Int)(w:World)(hr:Ig w g P)(G:P<=100000000000)(O:-1000000<=k)(F:k<=1000000):
  Calls prog 69 #[AH g,AB k] w λe w'=>∃d:Stil.CC,e=.returned (.agg #[AB d.kind,AB d.n,AB d.p])/\Small d/\Ig w' g (P+3)/\w.grownBy w' (some g):=by
 have H:=Va hr;have N:¬w.heap.size=g:=AQ
 have J:=W8 k;by_cases B:k=11
 ·subst B
  go_enter func69,ntmps69
  go_wp2_with (go_at_call_of 39 (12:Nat);refine(X9 g _ _ _ [0,1,2,3,5,-1,-7,10,100,32767,-32768,1000] _ (Bl (Bl hr _) _) AQ (Cm (by simp[Fz,go_sem])) AU BO AU AU).mono ?_;rintro e f ⟨x,rfl,E,m,u⟩;obtain⟨t,j,s,q1,q,l,y⟩:D1 f w.heap.size (AB 0) (AB 0) (AB 0):=qb3)
  all_goals
   refine bodyPost_ret (by simp[results,results69,go_sem,j,q1,l];rfl) rfl ?_;try simp only[DF,Da,DK] at*
   exact⟨⟨_,_,_⟩,rfl,KH AQ,A2,A0⟩
 ·by_cases C:k=12
  ·subst C
   go_enter func69,ntmps69
   go_wp2_with (first | (go_at_call_of 39 (11:Nat);refine(X9 g _ _ _ [0,1,5,-5,25,-15,999999999,-999999999,3,1001,7] _ (Bl (Bl hr _) _) AQ (Cm (by simp[Fz,go_sem])) AU BO AU AU).mono ?_;rintro e f ⟨x,rfl,E,m,u⟩;obtain⟨t,j,s,q1,q,l,y⟩:D1 f w.heap.size (AB 0) (AB 0) (AB 0):=qb3) | (go_at_call_of 37 (Value.int IntKind.i64 6);refine(Fp g _ _ _ (m) AQ AQ AQ).mono ?_;rintro e f ⟨x,rfl,A,z,m,u⟩;obtain⟨t,j,s,q1,q,l,y⟩:D1 f w.heap.size (AB 0) (AB 0) (AB 0):=qb3))
   all_goals
    refine bodyPost_ret (by simp[results,results69,go_sem,j,q1,l];rfl) rfl ?_;try simp only[DF,Da,DK] at*
    exact⟨⟨_,_,_⟩,rfl,KH AQ,A2,A0⟩
  ·by_cases D:k=13
   ·subst D
    go_enter func69,ntmps69
    go_wp2_with ((go_at_call_of 37 (Value.int IntKind.i64 4);refine(Fp g _ _ _ (Bl hr _) AQ AQ AQ).mono ?_;rintro e f ⟨x,rfl,A,z,m,u⟩;obtain⟨t,j,s,q1,q,l,y⟩:D1 f w.heap.size (AB 0) (AB 0) (AB 0):=qb3))
    all_goals
     refine bodyPost_ret (by simp[results,results69,go_sem,j,q1,l];rfl) rfl ?_;try simp only[DF,Da,DK] at*
     exact⟨⟨_,_,_⟩,rfl,KH AQ,A2,A0⟩
   ·have K:(k==11)=false:=by simpa using B
    have L:(k==12)=false:=by simpa using C
    have M:(k==13)=false:=by simpa using D
    go_enter func69,ntmps69
    go_wp2_with (first | (go_at_call_of 37 (Value.int IntKind.i64 4);refine(Fp g _ _ _ (Bl hr _) AQ AQ AQ).mono ?_;rintro e f ⟨x,rfl,A,z,m,u⟩;obtain⟨t,j,s,q1,q,l,y⟩:D1 f w.heap.size (AB 0) (AB 0) (AB 0):=qb3) | (go_at_call_of 37 (Value.int IntKind.i64 6);refine(Fp g _ _ _ (m) AQ AQ AQ).mono ?_;rintro e f ⟨x,rfl,A,z,m,u⟩;obtain⟨t,j,s,q1,q,l,y⟩:D1 f w.heap.size (AB 0) (AB 0) (AB 0):=qb3) | (go_at_call_of 37 (Value.int IntKind.i64 (Jd k));refine(Fp g _ _ _ (m) AQ AQ AQ).mono ?_;rintro e f ⟨x,rfl,A,z,m,u⟩;obtain⟨t,j,s,q1,q,l,y⟩:D1 f w.heap.size (AB 0) (AB 0) (AB 0):=qb3) | (go_at_call 109;refine(Ya _ _).mono ?_;rintro e I ⟨rfl,rfl⟩))
    all_goals
     refine bodyPost_ret (by simp[results,results69,go_sem,j,q1,l];rfl) rfl ?_;try simp only[DF,Da,DK] at*
     exact⟨⟨_,_,_⟩,rfl,KH AQ,A2,A0⟩
theorem uL (g P:Nat)(k n p:Int)(w:World)(hr:Ig w g P)(V:P<=100000000000)(I:Small ⟨k,n,p⟩):
  Calls prog 149 #[AH g, .agg #[AB k,AB n,AB p]] w λe w'=>∃d:Stil.CC,e=.returned (.agg #[AB d.kind,AB d.n,AB d.p])/\Small d/\Ig w' g (P+3)/\w.grownBy w' (some g):=by
 have X:=Va hr;have O:=W8 k;obtain⟨⟨T,J⟩,⟨U,K⟩,⟨L,N⟩⟩:=I;simp only at T J U K L N;obtain⟨z,G⟩:=AA (Jd k)
 rw[<-G] at O;have M:Hid (Jd k=z):=G.symm;clear G;go_enter func149,ntmps149
 go_wp2_with (first | (go_at_call_of 37 (Value.int IntKind.i64 6);refine(Fp g _ _ _ (Bl (Bl hr _) _) AQ AQ AQ).mono ?_;rintro e f ⟨x,rfl,S,Q,j,C⟩;obtain⟨B,y,u,q1,t,H,F⟩:D1 f w.heap.size (AB k) (AB n) (AB p):=qb3;obtain⟨E,m,A,l,s,q,D⟩:D1 f (w.heap.size+1) (AB 0) (AB 0) (AB 0):=qb3) | (go_at_call_of 37 (Value.int IntKind.i64 16);refine(Fp g _ _ _ (j) AQ AQ AQ).mono ?_;rintro e f ⟨x,rfl,S,Q,j,C⟩;obtain⟨B,y,u,q1,t,H,F⟩:D1 f w.heap.size (AB k) (AB n) (AB p):=qb3;obtain⟨E,m,A,l,s,q,D⟩:D1 f (w.heap.size+1) (AB 0) (AB 0) (AB 0):=qb3) | (go_at_call_of 39 (16:Nat);refine(X9 g _ _ _ [-1,4,5,15,16,31,32,63,64,255,32768,-32769,1000000000,-1000000000,20,10] _ (Bl j _) AQ (Cm (by simp[Fz,go_sem])) AU BO AU AU).mono ?_;rintro e f ⟨x,rfl,R,j,C⟩;obtain⟨B,y,u,q1,t,H,F⟩:D1 f w.heap.size (AB k) (AB n) (AB p):=qb3;obtain⟨E,m,A,l,s,q,D⟩:D1 f (w.heap.size+1) (AB 0) (AB 0) (AB 0):=qb3) | (go_at_call_of 39 (5:Nat);refine(X9 g _ _ _ [-1,0,1,6,7] _ (Bl j _) AQ (Cm (by simp[Fz,go_sem])) AU BO AU AU).mono ?_;rintro e f ⟨x,rfl,R,j,C⟩;obtain⟨B,y,u,q1,t,H,F⟩:D1 f w.heap.size (AB k) (AB n) (AB p):=qb3;obtain⟨E,m,A,l,s,q,D⟩:D1 f (w.heap.size+1) (AB 0) (AB 0) (AB 0):=qb3) | (go_at_call 109;refine(Ya _ _).mono ?_;rw[M.out];rintro e Y ⟨rfl,rfl⟩))
 all_goals
  refine bodyPost_ret (by simp[results,results149,go_sem,m,l,q];rfl) rfl ?_;try simp only[DF,Da,DK] at*
  exact⟨⟨_,_,_⟩,rfl,KH AQ,A2,A0⟩
theorem WQ (g P:Nat)(a:Stil.CC)(w:World)(hr:Ig w g P)(b:P<=100000000000)(f:Small a):
  Calls prog 149 #[AH g, .agg #[AB a.kind,AB a.n,AB a.p]] w λe w'=>∃d:Stil.CC,e=.returned (.agg #[AB d.kind,AB d.n,AB d.p])/\Small d/\Ig w' g (P+3)/\w.grownBy w' (some g):=
 uL g P a.kind a.n a.p w hr b f
theorem jN (g P:Nat)(w:World)(hr:Ig w g P)(A:P<=10000000000):
  Calls prog 108 #[AH g] w λe w'=>∃d:Stil.CC,e=.returned (.agg #[AB d.kind,AB d.n,AB d.p])/\Small d/\Ig w' g (P+4)/\w.grownBy w' (some g):=by
 have B:=Va hr;go_enter func108,ntmps108
 go_wp2_with (first | (go_at_call_of 39 (9:Nat);refine(X9 g _ _ _ [1,1,2,3,3,4,6,7,8] _ (Bl (Bl hr _) _) AQ (Cm (by simp[Fz,go_sem])) AU BO AU AU).mono ?_;rintro e f ⟨x,rfl,s,l,j⟩;simp only[DF,Da,DK] at s;obtain⟨y,m,u,q1,t,q,z⟩:D1 f w.heap.size (AB 0) (AB 0) (AB 0):=qb3) | (go_at_call 69;refine(Ph g _ x _ l AQ AQ AQ).mono ?_;rintro e f ⟨d,rfl,hd,l,j⟩;have y:w.heap.size<f.heap.size:=CB A4 j.size;have m:f.cell? (AL w 0)=some (AB 0):=(by rw[Dn j A4 AQ];first | assumption | (simp[go_sem, *];done));have u:f.frozen? (AL w 0)=false:=(by rw[G8 j A4 AQ];first | assumption | (simp[go_sem, *];done));have q1:f.cell? (AL w 1)=some (AB 0):=(by rw[Dn j A4 AQ];first | assumption | (simp[go_sem, *];done));have t:f.frozen? (AL w 1)=false:=(by rw[G8 j A4 AQ];first | assumption | (simp[go_sem, *];done));have q:f.cell? (AL w 2)=some (AB 0):=(by rw[Dn j A4 AQ];first | assumption | (simp[go_sem, *];done));have z:f.frozen? (AL w 2)=false:=(by rw[G8 j A4 AQ];first | assumption | (simp[go_sem, *];done))))
 refine bodyPost_ret (v:=.agg #[AB d.kind,AB d.n,AB d.p]) (by simp[results,results108,go_sem,m,q1,q]) rfl ?_;exact⟨d,rfl,hd,A2,A0⟩
theorem Vm (g P:Nat)(w:World)(hr:Ig w g P)(A:P<=10000000000):
  Calls prog 70 #[AH g] w λe w'=>∃d:Stil.CC,e=.returned (.agg #[AB d.kind,AB d.n,AB d.p])/\Small d/\Ig w' g (P+4)/\w.grownBy w' (some g):=by
 have B:=Va hr;go_enter func70,ntmps70
 go_wp2_with (first | (go_at_call_of 39 (7:Nat);refine(X9 g _ _ _ [9,9,9,11,11,7,8] _ (Bl (Bl hr _) _) AQ (Cm (by simp[Fz,go_sem])) AU BO AU AU).mono ?_;rintro e f ⟨x,rfl,s,l,j⟩;simp only[DF,Da,DK] at s;obtain⟨y,m,u,q1,t,q,z⟩:D1 f w.heap.size (AB 0) (AB 0) (AB 0):=qb3) | (go_at_call 69;refine(Ph g _ x _ l AQ AQ AQ).mono ?_;rintro e f ⟨d,rfl,hd,l,j⟩;have y:w.heap.size<f.heap.size:=CB A4 j.size;have m:f.cell? (AL w 0)=some (AB 0):=(by rw[Dn j A4 AQ];first | assumption | (simp[go_sem, *];done));have u:f.frozen? (AL w 0)=false:=(by rw[G8 j A4 AQ];first | assumption | (simp[go_sem, *];done));have q1:f.cell? (AL w 1)=some (AB 0):=(by rw[Dn j A4 AQ];first | assumption | (simp[go_sem, *];done));have t:f.frozen? (AL w 1)=false:=(by rw[G8 j A4 AQ];first | assumption | (simp[go_sem, *];done));have q:f.cell? (AL w 2)=some (AB 0):=(by rw[Dn j A4 AQ];first | assumption | (simp[go_sem, *];done));have z:f.frozen? (AL w 2)=false:=(by rw[G8 j A4 AQ];first | assumption | (simp[go_sem, *];done))))
 refine bodyPost_ret (v:=.agg #[AB d.kind,AB d.n,AB d.p]) (by simp[results,results70,go_sem,m,q1,q]) rfl ?_;exact⟨d,rfl,hd,A2,A0⟩
theorem Y3 (g P:Nat)(w:World)(hr:Ig w g P)(A:P<=10000000000):
  Calls prog 71 #[AH g] w λe w'=>∃d:Stil.CC,e=.returned (.agg #[AB d.kind,AB d.n,AB d.p])/\Small d/\Ig w' g (P+4)/\w.grownBy w' (some g):=by
 have B:=Va hr;go_enter func71,ntmps71
 go_wp2_with (first | (go_at_call_of 39 (5:Nat);refine(X9 g _ _ _ [10,10,10,12,13] _ (Bl (Bl hr _) _) AQ (Cm (by simp[Fz,go_sem])) AU BO AU AU).mono ?_;rintro e f ⟨x,rfl,s,l,j⟩;simp only[DF,Da,DK] at s;obtain⟨y,m,u,q1,t,q,z⟩:D1 f w.heap.size (AB 0) (AB 0) (AB 0):=qb3) | (go_at_call 69;refine(Ph g _ x _ l AQ AQ AQ).mono ?_;rintro e f ⟨d,rfl,hd,l,j⟩;have y:w.heap.size<f.heap.size:=CB A4 j.size;have m:f.cell? (AL w 0)=some (AB 0):=(by rw[Dn j A4 AQ];first | assumption | (simp[go_sem, *];done));have u:f.frozen? (AL w 0)=false:=(by rw[G8 j A4 AQ];first | assumption | (simp[go_sem, *];done));have q1:f.cell? (AL w 1)=some (AB 0):=(by rw[Dn j A4 AQ];first | assumption | (simp[go_sem, *];done));have t:f.frozen? (AL w 1)=false:=(by rw[G8 j A4 AQ];first | assumption | (simp[go_sem, *];done));have q:f.cell? (AL w 2)=some (AB 0):=(by rw[Dn j A4 AQ];first | assumption | (simp[go_sem, *];done));have z:f.frozen? (AL w 2)=false:=(by rw[G8 j A4 AQ];first | assumption | (simp[go_sem, *];done))))
 refine bodyPost_ret (v:=.agg #[AB d.kind,AB d.n,AB d.p]) (by simp[results,results71,go_sem,m,q1,q]) rfl ?_;exact⟨d,rfl,hd,A2,A0⟩
theorem eB (g P:Nat)(w:World)(hr:Ig w g P)(H:P<=10000000000):
  Calls prog 148 #[AH g] w λe w'=>∃d:Stil.CC,e=.returned (.agg #[AB d.kind,AB d.n,AB d.p])/\Small d/\Ig w' g (P+8)/\w.grownBy w' (some g):=by
 have I:=Va hr;go_enter func148,ntmps148
 go_wp2_with (first | (go_at_call_of 37 (Value.int IntKind.i64 13);refine(Fp g _ _ _ Ab AQ AQ AQ).mono ?_;rintro e j ⟨x,rfl,D,C,u,y⟩;obtain⟨t,l,s,q1,q,m,z⟩:D1 j w.heap.size (AB 0) (AB 0) (AB 0):=qb3) | (go_at_call 69;refine(Ph g _ _ _ Ab AQ AQ AQ).mono ?_;rintro e A ⟨d,rfl,hd,u,y⟩;obtain⟨t,l,s,q1,q,m,z⟩:D1 A w.heap.size (AB 0) (AB 0) (AB 0):=qb3) | (go_at_call_of 37 (Value.int IntKind.i64 20);refine(Fp g _ _ _ Ab AQ AQ AQ).mono ?_;rintro e j ⟨x,rfl,D,C,u,y⟩;obtain⟨t,l,s,q1,q,m,z⟩:D1 j w.heap.size (AB 0) (AB 0) (AB 0):=qb3;obtain⟨M,G,J,E,F,K,L⟩:QbD j A.heap.size d:=qbD) | (go_at_call 149;refine(WQ g _ d _ Ab AQ hd).mono ?_;rintro e j ⟨f,rfl,B,u,y⟩;obtain⟨t,l,s,q1,q,m,z⟩:D1 j w.heap.size (AB 0) (AB 0) (AB 0):=qb3))
 ·refine bodyPost_ret (v:=.agg #[AB f.kind,AB f.n,AB f.p]) (by simp[results,results148,go_sem,l,q1,m]) rfl ?_
  exact⟨f,rfl,B,A2,A0⟩
 ·refine bodyPost_ret (v:=.agg #[AB d.kind,AB d.n,AB d.p]) (by simp[results,results148,go_sem,l,q1,m]) rfl ?_
  exact⟨d,rfl,hd,A2,A0⟩
