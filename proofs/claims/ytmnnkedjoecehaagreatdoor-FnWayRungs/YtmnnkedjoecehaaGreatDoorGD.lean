import Derived.Test.YtmnnkedjoecehaaGreatDoorGg
import Derived.Test.YtmnnkedjoecehaaGreatDoorI3
set_option linter.defProp false
set_option maxHeartbeats 4000000
set_option maxRecDepth 100000
namespace Go.Proofs.YtmnnkedjoecehaaGreatDoor
open Tryz Stil Go.RowKit Go.Sort Go.BigFrame
variable {P c g o p:Nat}{W a w':World}{ob:Obj}{r:Option Nat}{v v1 v2 v3:Value}
def Ij (w:World)(g P:Nat):Prop:=∃(a:Option Addr) (len cap p:Nat),w.cell? ⟨g,0,none⟩=some (AE a len cap)/\w.cell? ⟨g,1,none⟩=some (AB p)/\w.frozen? ⟨g,1,none⟩=false/\p<=P/\len<=2000/\
 ∀i,i<len->∃b o z,a=some ⟨b,o,none⟩/\b<g/\w.cell? ⟨b,o+i,none⟩=some (.int .u8 z)/\0<=z/\z<256
def Az9 (w:World)(g o:Nat)(v:Value):w.grownBy (w.setCell (AK g o) v) (some g):=by
 refine⟨rfl,rfl,rfl,AU,λk d b=>?_⟩;simp only[World.setCell,JO];rw[if_neg (λe=>b (by rw[e]))]
theorem QJ {w:World}{a:Option Addr}{len cap:Nat}(j:w.cell? ⟨g,0,none⟩=some (AE a len cap))(m:w.cell? ⟨g,1,none⟩=some (AB p))(l:w.frozen? ⟨g,1,none⟩=false)(u:p<=P)(n:len<=2000)
  (e:∀i,i<len->∃b o z,a=some ⟨b,o,none⟩/\b<g/\w.cell? ⟨b,o+i,none⟩=some (.int .u8 z)/\0<=z/\z<256):
  Ij (w.setCell ⟨g,1,none⟩ (AB ((p:Int)+1))) g (P+1)/\w.grownBy (w.setCell ⟨g,1,none⟩ (AB ((p:Int)+1))) (some g):=by
 refine⟨⟨a,len,cap,p+1,?_,?_,?_,AQ,n,λi hi=>?_⟩,Az9 _ _ _ _⟩
 ·simp[go_sem,j]
 ·simp[go_sem,m]
 ·simp[go_sem,l]
 ·obtain⟨b,o,z,q,d,s,k,f⟩:=e i hi
  have t:¬b=g:=AQ
  have x:¬g=b:=AQ
  exact⟨b,o,z,q,d,by simp[go_sem,s],k,f⟩
theorem mw (a b:Nat)(j:a<4611686018427387904)(i:b<4611686018427387904):∃m:Nat,bits .xor .i64 (a:Int) (b:Int)=(m:Int):=by
 have d:a % 2 ^ 64=a:=Nat.mod_eq_of_lt AQ;have f:b % 2 ^ 64=b:=Nat.mod_eq_of_lt AQ;have k:a ^^^ b<2 ^ 62:=Nat.xor_lt_two_pow (n:=62) AQ AQ;refine⟨a ^^^ b,?_⟩;have e:bits .xor .i64 (a:Int) (b:Int)=IntKind.i64.wrap ((a ^^^ b:Nat):Int):=by
  simp only[bits,BitVec.ofInt_natCast,BitVec.toNat_xor,BitVec.toNat_ofNat];rw[show IntKind.i64.bits=64 from rfl,d,f]
 rw[e,IntKind.wrap_i64];omega
def Zl {w:World}(h:Ij w g P)(n:Nat):Ij (w.drewN n) g P:=h
def grown_drewN {w:World}(h:w.grownBy w' (some g))(n:Nat):w.grownBy (w'.drewN n) (some g):=⟨h.os,h.tape,h.output,h.size,h.block⟩
def Pj (w:World)(r:Option Nat):w.grownBy w r:=⟨rfl,rfl,rfl,CG _,λ_ _ _=>rfl⟩
def Vv {b c:World}(h:a.grownBy b r)(k:b.grownBy c r):a.grownBy c r:=
 ⟨k.os.trans h.os,k.tape.trans h.tape,k.output.trans h.output,CM h.size k.size,λj e d=>(k.block j (CB e h.size) d).trans (h.block j e d)⟩
def grown_below {b:World}(h:AO a b)(r:Option Nat):a.grownBy b r:=⟨h.os,h.tape,h.output,h.size,λk d _=>h.block k d⟩
theorem Fv (g P:Nat)(n:Int)(w:World)(hr:Ij w g P)(S:P<=1000000000000)(ac:n<=1000000)(ab:-1000000<=n):
  Calls prog 24 #[AH g,AB n] w λe w'=>∃x:Int,e=.returned (AB x)/\0<=x/\(x<n\/x=0)/\Ij w' g (P+1)/\w.grownBy w' (some g):=by
 obtain⟨a,len,cap,p,j,u,l,A,k,d⟩:=hr;by_cases L:len=0
 ·subst L
  have f:=QJ j u l A k d;clear d;go_enter func24,ntmps24
  go_wp2
  all_goals go_ret
  all_goals exact⟨0,rfl,AQ,AQ,f⟩
 by_cases Q:n<1
 ·have f:=QJ j u l A k d
  have J:((len:Int)==0)=false:=by rw[CS];omega
  have ag:decide (n<1)=true:=by simpa using Q
  clear d;go_enter func24,ntmps24
  go_wp2
  go_ret;exact⟨0,rfl,AQ,AQ,f⟩
 ·have J:((len:Int)==0)=false:=by rw[CS];omega
  have f:=QJ j u l A k d;by_cases K:p<len
  ·obtain⟨b,o,z,rfl,N,G,I,H⟩:=d p K
   have C:0<=z % n/\z % n<n:=⟨Int.emod_nonneg _ AQ,Int.emod_lt_of_pos _ AQ⟩
   clear d;go_enter func24,ntmps24
   go_wp2
   go_ret;exact⟨_,rfl,C.1,Or.inl C.2,f⟩
  ·obtain⟨b,o,z,rfl,N,G,I,H⟩:=d (p % len) (Nat.mod_lt _ AQ)
   obtain⟨Y,o',M,B,_,R,T,Z⟩:=d ((p*7+3) % len) (Nat.mod_lt _ AQ);simp only[C0,Addr.mk.injEq,FG] at B;obtain⟨rfl,rfl⟩:=B;clear d;obtain⟨q,i⟩:=AA (p % len)
   obtain⟨r,hr⟩:=AA ((p*7+3) % len)
   obtain⟨t,s⟩:=AA (p / len)
   have ae:q<len:=by rw[i];exact Nat.mod_lt _ AQ
   have aa:r<len:=by rw[hr];exact Nat.mod_lt _ AQ
   have af:t<=p:=by rw[s];exact Nat.div_le_self _ _
   have V:(p:Int) % (len:Int)=q:=by rw[i];simp
   have U:((p:Int)*7+3) % (len:Int)=r:=by rw[hr];simp
   have X:(p:Int) / (len:Int)=t:=by rw[s];simp
   rw[<-i] at G;rw[<-hr] at R;clear i hr s;go_enter func24,ntmps24
   go_wp2
   go_quiet (fail)
   go_wp2
   go_ret;obtain⟨y,E⟩:∃y:Nat,z*131+M*1117+(p:Int)*29+(t:Int)*53=(y:Int):=FW AQ;have O:y<4611686018427387904:=AQ
   obtain⟨m,D⟩:=mw y (y / 64) O AQ;have F:((y:Int) / 64)=((y / 64:Nat):Int):=AQ
   refine⟨_,rfl,?_,?_,Zl f.1 _,grown_drewN f.2 _⟩
   ·rw[E,F,D];exact Int.tmod_nonneg _ AQ
   ·left;rw[E,F,D];exact Int.tmod_lt_of_pos _ AQ
theorem Dk {w:World}{b:Nat}(h:w.grownBy w' (some g))(d:b<w.heap.size)(f:b≠g):w'.cell? (AK b o)=w.cell? (AK b o):=by
 unfold World.cell?;rw[h.block b d (by intro e;cases e;exact f rfl)]
theorem Gx {w:World}{b:Nat}(h:w.grownBy w' (some g))(d:b<w.heap.size)(f:b≠g):w'.frozen? (AK b o)=w.frozen? (AK b o):=by
 unfold World.frozen?;rw[h.block b d (by intro e;cases e;exact f rfl)]
def Ei {w:World}(h:w.grownBy a r)(o:Obj):w.grownBy (a.alloc o) r:=Vv h (grown_below (Aa a o) r)
def wE {w:World}(h:w.grownBy a r)(n:Nat):w.grownBy (a.drewN n) r:=⟨h.os,h.tape,h.output,h.size,h.block⟩
def e7 {w:World}(h:w.grownBy a r):w.grownBy a.drew r:=⟨h.os,h.tape,h.output,h.size,h.block⟩
def Oa {w:World}{p:Addr}(e:w.heap.size<=p.block)(h:w.grownBy a r)(v:Value):w.grownBy (a.setCell p v) r:=
 ⟨h.os,h.tape,h.output,by simpa using h.size,λk d b=>by
  rw[<-h.block k d b];simp only[World.setCell,JO]
  rw[if_neg AQ]⟩
def Ed {w b:World}(h:w.grownBy a r)(k:a.grownBy b r):w.grownBy b r:=Vv h k
def A2 {w:World}(h:w.grownBy W r:=by(repeat (first | with_reducible exact Pj _ _ | with_reducible assumption | with_reducible refine Oa (by first | exact CG _ | (simp;done) | (simp;omega) | omega) ?_ _ | with_reducible refine Ei ?_ _ | with_reducible refine wE ?_ _ | with_reducible refine e7 ?_ | with_reducible refine Ed ?_ (by with_reducible assumption)))):w.grownBy W r:=h
theorem Ci {w:World}(h:Ij w g P)(o:Obj):Ij (w.alloc o) g P:=by
 obtain⟨a,len,cap,p,e,y,u,A,n,k⟩:=h;have f:g<w.heap.size:=by
  unfold World.cell? at e;cases j:w.heap[g]? with
  | none=>simp[j] at e
  | some x=>exact(Array.getElem?_eq_some_iff.1 j).1
 have d:=Aa w o;refine⟨a,len,cap,p,by rw[d.cell (p:=(AK g 0)) f];exact e,by rw[d.cell (p:=(AK g 1)) f];exact y,by rw[d.frozen (p:=(AK g 1)) f];exact u,A,n,λi hi=>?_⟩;obtain⟨b,q,z,s,t,B,m,l⟩:=k i hi;exact⟨b,q,z,s,t,by rw[d.cell (p:=(AK b (q+i))) (by show b<_;omega)];exact B,m,l⟩
theorem V8 {w:World}(h:Ij w g P):g<w.heap.size:=by
 obtain⟨a,len,cap,p,d,_⟩:=h;unfold World.cell? at d;cases b:w.heap[g]? with
 | none=>simp[b] at d
 | some x=>exact(Array.getElem?_eq_some_iff.1 b).1
theorem Gl {w:World}{Q:Nat}(h:Ij w g P)(j:P<=Q):Ij w g Q:=by
 obtain⟨a,len,cap,p,e,b,f,i,d⟩:=h;exact⟨a,len,cap,p,e,b,f,AQ,d⟩
theorem Ku {w:World}{b:Nat}(h:Ij w g P)(x:g<b)(v:Value):Ij (w.setCell ⟨b,o,none⟩ v) g P:=by
 obtain⟨a,len,cap,p,d,n,m,s,f,l⟩:=h;have A:¬g=b:=AQ
 have y:¬b=g:=AQ
 refine⟨a,len,cap,p,by simp[go_sem,d],by simp[go_sem,n],by simp[go_sem,m],s,f,λi hi=>?_⟩;obtain⟨c,q,z,j,k,u,t,e⟩:=l i hi;have B:¬c=b:=AQ
 have C:¬b=c:=AQ
 exact⟨c,q,z,j,k,by simp[go_sem,u],t,e⟩
theorem F9 {b:Nat}(h:c≠b):(W.setCell ⟨b,o,none⟩ v).cell? ⟨c,p,none⟩=W.cell? ⟨c,p,none⟩:=by
 have d:¬b=c:=λe=>h e.symm
 simp[go_sem]
theorem Hm {b:Nat}(h:p≠o):(W.setCell ⟨b,o,none⟩ v).cell? ⟨b,p,none⟩=W.cell? ⟨b,p,none⟩:=by
 have d:¬o=p:=λe=>h e.symm
 simp[go_sem]
theorem Nk {b:Nat}{u:Value}(h:W.cell? ⟨b,o,none⟩=some u):(W.setCell ⟨b,o,none⟩ v).cell? ⟨b,o,none⟩=some v:=by
 simp[go_sem,h]
theorem Ld {b:Nat}:(W.setCell ⟨b,o,none⟩ v).frozen? ⟨c,p,none⟩=W.frozen? ⟨c,p,none⟩:=by
 simp[go_sem]
def Js (h:c<W.heap.size):(W.alloc ob).cell? (AK c p)=W.cell? (AK c p):=(Aa W ob).cell (p:=(AK c p)) h
def Ip (h:c<W.heap.size):(W.alloc ob).frozen? (AK c p)=W.frozen? (AK c p):=(Aa W ob).frozen (p:=(AK c p)) h
def VG {w:World}(h:Ij w g P):Ij w.drew g P:=h
def A3 {w:World}(h:Ij w g P:=by(repeat (first | with_reducible assumption | with_reducible refine Ku ?_ (by first | omega | (simp;omega)) _ | with_reducible refine Ci ?_ _ | with_reducible refine Zl ?_ _ | with_reducible refine VG ?_ | exact Gl (by with_reducible assumption) (by omega)))):Ij w g P:=h
def Us {a:Addr}:W.drew.cell? a=W.cell? a:=rfl
def cfA {a:Addr}{o:Option Value}(h:W.cell? a=o:=by(repeat (first | with_reducible assumption | with_reducible refine Us.trans ?_ | with_reducible refine(F9 (by omega)).trans ?_ | with_reducible refine(Hm (by omega)).trans ?_ | with_reducible refine(Js BR).trans ?_ | with_reducible apply Nk | (simp[go_sem];done)))):W.cell? a=o:=h
def O0 {a:Addr}:W.drew.frozen? a=W.frozen? a:=rfl
def ffA {a:Addr}{o:Bool}(h:W.frozen? a=o:=by(repeat (first | with_reducible assumption | with_reducible refine O0.trans ?_ | with_reducible refine Ld.trans ?_ | with_reducible refine(Ip BR).trans ?_ | (simp[go_sem];done)))):W.frozen? a=o:=h
theorem gcA {w:World}{b:Nat}{v:Option Value}(hg:w.grownBy W (some g))(h1:b<w.heap.size:=by first | with_reducible assumption | (simp;done) | (simp;omega))(h2:b≠g:=by omega)(h3:w.cell? (AK b o)=v:=by(repeat (first | with_reducible assumption | with_reducible refine Us.trans ?_ | with_reducible refine(F9 (by omega)).trans ?_ | with_reducible refine(Hm (by omega)).trans ?_ | with_reducible refine(Js BR).trans ?_ | with_reducible apply Nk | (simp[go_sem];done)))):W.cell? (AK b o)=v:=(Dk hg h1 h2).trans h3
def gfA {w:World}{b:Nat}{v:Bool}(hg:w.grownBy W (some g))(h1:b<w.heap.size:=by first | with_reducible assumption | (simp;done) | (simp;omega))(h2:b≠g:=by omega)(h3:w.frozen? (AK b o)=v:=by(repeat (first | with_reducible assumption | with_reducible refine O0.trans ?_ | with_reducible refine Ld.trans ?_ | with_reducible refine(Ip BR).trans ?_ | (simp[go_sem];done)))):W.frozen? (AK b o)=v:=(Gx hg h1 h2).trans h3
def ko {w:World}{b:Nat}(d:g<b)(h:Ij w g P):Ij (w.setCell (AK b o) v) g P:=Ku h d v
def Av {w:World}(h:Ij w g P:=by(repeat (first | with_reducible assumption | with_reducible apply Ci | with_reducible apply Zl | with_reducible apply VG | (with_reducible apply ko;first | omega | (simp;omega))))):Ij w g P:=h
def GL (W:World)(b:Nat)(v0 v1:Value):Prop:=b<W.heap.size/\W.cell? ⟨b,0,none⟩=some v0/\W.frozen? ⟨b,0,none⟩=false/\W.cell? ⟨b,1,none⟩=some v1/\W.frozen? ⟨b,1,none⟩=false
def D2 (W:World)(b:Nat)(v0 v1 v2:Value):Prop:=b<W.heap.size/\W.cell? ⟨b,0,none⟩=some v0/\W.frozen? ⟨b,0,none⟩=false/\W.cell? ⟨b,1,none⟩=some v1/\W.frozen? ⟨b,1,none⟩=false/\W.cell? ⟨b,2,none⟩=some v2/\W.frozen? ⟨b,2,none⟩=false
def FR (W:World)(b:Nat)(v0 v1 v2 v3:Value):Prop:=b<W.heap.size/\W.cell? ⟨b,0,none⟩=some v0/\W.frozen? ⟨b,0,none⟩=false/\W.cell? ⟨b,1,none⟩=some v1/\W.frozen? ⟨b,1,none⟩=false/\W.cell? ⟨b,2,none⟩=some v2/\W.frozen? ⟨b,2,none⟩=false/\W.cell? ⟨b,3,none⟩=some v3/\W.frozen? ⟨b,3,none⟩=false
def Ek (W:World)(b:Nat)(v0 v1 v2 v3 d e:Value):Prop:=b<W.heap.size/\W.cell? ⟨b,0,none⟩=some v0/\W.frozen? ⟨b,0,none⟩=false/\W.cell? ⟨b,1,none⟩=some v1/\W.frozen? ⟨b,1,none⟩=false/\W.cell? ⟨b,2,none⟩=some v2/\W.frozen? ⟨b,2,none⟩=false/\W.cell? ⟨b,3,none⟩=some v3/\W.frozen? ⟨b,3,none⟩=false/\W.cell? ⟨b,4,none⟩=some d/\W.frozen? ⟨b,4,none⟩=false/\W.cell? ⟨b,5,none⟩=some e/\W.frozen? ⟨b,5,none⟩=false
def LG {w:World}{b:Nat}(h:w.grownBy W (some g))(d:b<w.heap.size):b<W.heap.size:=CB d h.size
def QbC (W:World)(b i:Nat)(v:Value):Prop:=W.cell? ⟨b,i,none⟩=some v/\W.frozen? ⟨b,i,none⟩=false
def qbC {b i:Nat}(h:W.cell? (AK b i)=some v:=by(refine(Dk (by with_reducible assumption) BR (by omega)).trans ?_;exact cfA))(k:W.frozen? (AK b i)=false:=by(refine(Gx (by with_reducible assumption) BR (by omega)).trans ?_;exact ffA)):QbC W b i v:=⟨h,k⟩
def qb2 {b:Nat}{v0:Value}(hz:b<W.heap.size:=by(refine LG (by with_reducible assumption) ?_;first | with_reducible assumption | (simp;done) | (simp;omega)))(h0:QbC W b 0 v0:=by exact qbC)(h1:QbC W b 1 v1:=by exact qbC):GL W b v0 v1:=⟨hz,h0.1,h0.2,h1.1,h1.2⟩
def qb3 {b:Nat}{v0:Value}(hz:b<W.heap.size:=by(refine LG (by with_reducible assumption) ?_;first | with_reducible assumption | (simp;done) | (simp;omega)))(h0:QbC W b 0 v0:=by exact qbC)(h1:QbC W b 1 v1:=by exact qbC)(h2:QbC W b 2 v2:=by exact qbC):D2 W b v0 v1 v2:=⟨hz,h0.1,h0.2,h1.1,h1.2,h2.1,h2.2⟩
def qb4 {b:Nat}{v0:Value}(hz:b<W.heap.size:=by(refine LG (by with_reducible assumption) ?_;first | with_reducible assumption | (simp;done) | (simp;omega)))(h0:QbC W b 0 v0:=by exact qbC)(h1:QbC W b 1 v1:=by exact qbC)(h2:QbC W b 2 v2:=by exact qbC)(h3:QbC W b 3 v3:=by exact qbC):FR W b v0 v1 v2 v3:=⟨hz,h0.1,h0.2,h1.1,h1.2,h2.1,h2.2,h3.1,h3.2⟩
def qb6 {b:Nat}{v0 v4 v5:Value}(hz:b<W.heap.size:=by(refine LG (by with_reducible assumption) ?_;first | with_reducible assumption | (simp;done) | (simp;omega)))(h0:QbC W b 0 v0:=by exact qbC)(h1:QbC W b 1 v1:=by exact qbC)(h2:QbC W b 2 v2:=by exact qbC)(h3:QbC W b 3 v3:=by exact qbC)(h4:QbC W b 4 v4:=by exact qbC)(h5:QbC W b 5 v5:=by exact qbC):Ek W b v0 v1 v2 v3 v4 v5:=⟨hz,h0.1,h0.2,h1.1,h1.2,h2.1,h2.2,h3.1,h3.2,h4.1,h4.2,h5.1,h5.2⟩
def QbD (W:World)(b:Nat)(d:Stil.CC):Prop:=D2 W b (AB d.kind) (AB d.n) (AB d.p)
def qbD {b:Nat}{d:Stil.CC}(h:D2 W b (AB d.kind) (AB d.n) (AB d.p):=by exact qb3):QbD W b d:=h
def QbE (W:World)(b:Nat):Prop:=GL W b (AB 0) AG
def qbE {b:Nat}(h:GL W b (AB 0) AG:=by exact qb2):QbE W b:=h
def EQ (W:World)(b:Nat):Prop:=FR W b (AB 0) (AB 0) AG AG
def EW {b:Nat}(h:FR W b (AB 0) (AB 0) AG AG:=by exact qb4):EQ W b:=h
def EG (W:World)(b:Nat):Prop:=Ek W b (AB 0) (AB 0) AG AG AG AG
def EJ {b:Nat}(h:Ek W b (AB 0) (AB 0) AG AG AG AG:=by exact qb6):EG W b:=h
theorem FA (g P b cap:Nat)(l:List Int)(w:World)(hr:Ij w g P)(n:P<=1000000000000)(f:JH w b 0 l)(s:b<w.heap.size)(k:b≠g)(y:1<=l.length)(A:l.length<=1000):
  Calls prog 46 #[AH g,AE (some (AK b 0)) l.length cap] w λe w'=>∃x:Int,e=.returned (AB x)/\x∈l/\Ij w' g (P+1)/\w.grownBy w' (some g):=by
 have m:Hid (JH w b 0 l):=f;clear f;go_enter func46,ntmps46
 go_wp2_with (go_at_call 24;refine(Fv g P _ _ hr n AQ AQ).mono ?_;rintro e t ⟨x,rfl,u,B,q,i⟩;obtain⟨j,rfl⟩:=FW u;have d:j<l.length:=AQ;have z:t.cell? (AK b j)=some (AB l[j]):=(by rw[Dk i s k];have:=m j d;rwa [CV] at this))
 go_ret;exact⟨_,rfl,CJ d,q,i⟩
def Small (d:Stil.CC):Prop:=(-10000000000<=d.kind/\d.kind<=10000000000)/\(-10000000000<=d.n/\d.n<=10000000000)/\(-10000000000<=d.p/\d.p<=10000000000)
theorem Small.fits {d:Stil.CC}(h:Small d):d.fits:=by
 obtain⟨⟨a,b⟩,⟨c,d⟩,⟨e,f⟩⟩:=h;exact⟨⟨AQ,AQ⟩,⟨AQ,AQ⟩,⟨AQ,AQ⟩⟩
def KQ {k n p:Int}(h:-10000000000<=k/\k<=10000000000/\-10000000000<=n/\n<=10000000000/\-10000000000<=p/\p<=10000000000):Small ⟨k,n,p⟩:=⟨⟨h.1,h.2.1⟩,⟨h.2.2.1,h.2.2.2.1⟩,⟨h.2.2.2.2.1,h.2.2.2.2.2⟩⟩
def XW (k:Int):0<=I9 k/\I9 k<=64:=by
 unfold I9;split
 ·omega
 ·split
  ·omega
  ·split
   ·omega
   ·split<;>omega
theorem Pv (g P:Nat)(k:Int)(w:World)(hr:Ij w g P)(G:P<=100000000000)(J:-1000000<=k)(I:k<=1000000):
  Calls prog 74 #[AH g,AB k] w λe w'=>∃d:Stil.CC,e=.returned (.agg #[AB d.kind,AB d.n,AB d.p])/\Small d/\Ij w' g (P+3)/\w.grownBy w' (some g):=by
 have M:=V8 hr;have H:¬w.heap.size=g:=AQ
 have F:=XW k;by_cases C:k=11
 ·subst C
  go_enter func74,ntmps74
  go_wp2_with (go_at_call_of 46 (12:Nat);refine(FA g _ _ _ [0,1,2,3,5,-1,-7,10,100,32767,-32768,1000] _ (Ci (Ci hr _) _) AQ (Dp (by simp[Gn,go_sem])) AU BU AU AU).mono ?_;rintro e f ⟨x,rfl,E,m,y⟩;obtain⟨s,j,t,q1,u,l,q⟩:D2 f w.heap.size (AB 0) (AB 0) (AB 0):=qb3)
  all_goals
   refine bodyPost_ret (by simp[results,results74,go_sem,j,q1,l];rfl) rfl ?_;try simp only[C7,EA,DR] at*
   exact⟨⟨_,_,_⟩,rfl,KQ AQ,A3,A2⟩
 ·by_cases D:k=12
  ·subst D
   go_enter func74,ntmps74
   go_wp2_with (first | (go_at_call_of 46 (11:Nat);refine(FA g _ _ _ [0,1,5,-5,25,-15,999999999,-999999999,3,1001,7] _ (Ci (Ci hr _) _) AQ (Dp (by simp[Gn,go_sem])) AU BU AU AU).mono ?_;rintro e f ⟨x,rfl,E,m,y⟩;obtain⟨s,j,t,q1,u,l,q⟩:D2 f w.heap.size (AB 0) (AB 0) (AB 0):=qb3) | (go_at_call_of 24 (Value.int IntKind.i64 6);refine(Fv g _ _ _ (m) AQ AQ AQ).mono ?_;rintro e f ⟨x,rfl,z,A,m,y⟩;obtain⟨s,j,t,q1,u,l,q⟩:D2 f w.heap.size (AB 0) (AB 0) (AB 0):=qb3))
   all_goals
    refine bodyPost_ret (by simp[results,results74,go_sem,j,q1,l];rfl) rfl ?_;try simp only[C7,EA,DR] at*
    exact⟨⟨_,_,_⟩,rfl,KQ AQ,A3,A2⟩
  ·by_cases B:k=13
   ·subst B
    go_enter func74,ntmps74
    go_wp2_with ((go_at_call_of 24 (Value.int IntKind.i64 4);refine(Fv g _ _ _ (Ci hr _) AQ AQ AQ).mono ?_;rintro e f ⟨x,rfl,z,A,m,y⟩;obtain⟨s,j,t,q1,u,l,q⟩:D2 f w.heap.size (AB 0) (AB 0) (AB 0):=qb3))
    all_goals
     refine bodyPost_ret (by simp[results,results74,go_sem,j,q1,l];rfl) rfl ?_;try simp only[C7,EA,DR] at*
     exact⟨⟨_,_,_⟩,rfl,KQ AQ,A3,A2⟩
   ·have K:(k==11)=false:=by simpa using C
    have L:(k==12)=false:=by simpa using D
    have N:(k==13)=false:=by simpa using B
    go_enter func74,ntmps74
    go_wp2_with (first | (go_at_call_of 24 (Value.int IntKind.i64 4);refine(Fv g _ _ _ (Ci hr _) AQ AQ AQ).mono ?_;rintro e f ⟨x,rfl,z,A,m,y⟩;obtain⟨s,j,t,q1,u,l,q⟩:D2 f w.heap.size (AB 0) (AB 0) (AB 0):=qb3) | (go_at_call_of 24 (Value.int IntKind.i64 6);refine(Fv g _ _ _ (m) AQ AQ AQ).mono ?_;rintro e f ⟨x,rfl,z,A,m,y⟩;obtain⟨s,j,t,q1,u,l,q⟩:D2 f w.heap.size (AB 0) (AB 0) (AB 0):=qb3) | (go_at_call_of 24 (Value.int IntKind.i64 (I9 k));refine(Fv g _ _ _ (m) AQ AQ AQ).mono ?_;rintro e f ⟨x,rfl,z,A,m,y⟩;obtain⟨s,j,t,q1,u,l,q⟩:D2 f w.heap.size (AB 0) (AB 0) (AB 0):=qb3) | (go_at_call 117;refine(Yo _ _).mono ?_;rintro e O ⟨rfl,rfl⟩))
    all_goals
     refine bodyPost_ret (by simp[results,results74,go_sem,j,q1,l];rfl) rfl ?_;try simp only[C7,EA,DR] at*
     exact⟨⟨_,_,_⟩,rfl,KQ AQ,A3,A2⟩
theorem uI (g P:Nat)(k n p:Int)(w:World)(hr:Ij w g P)(V:P<=100000000000)(O:Small ⟨k,n,p⟩):
  Calls prog 119 #[AH g, .agg #[AB k,AB n,AB p]] w λe w'=>∃d:Stil.CC,e=.returned (.agg #[AB d.kind,AB d.n,AB d.p])/\Small d/\Ij w' g (P+3)/\w.grownBy w' (some g):=by
 have X:=V8 hr;have J:=XW k;obtain⟨⟨U,M⟩,⟨S,K⟩,⟨I,L⟩⟩:=O;simp only at U M S K I L;obtain⟨z,F⟩:=AA (I9 k)
 rw[<-F] at J;have N:Hid (I9 k=z):=F.symm;clear F;go_enter func119,ntmps119
 go_wp2_with (first | (go_at_call_of 24 (Value.int IntKind.i64 6);refine(Fv g _ _ _ (Ci (Ci hr _) _) AQ AQ AQ).mono ?_;rintro e f ⟨x,rfl,Q,T,j,H⟩;obtain⟨y,s,A,q1,D,E,t⟩:D2 f w.heap.size (AB k) (AB n) (AB p):=qb3;obtain⟨u,m,C,l,B,q,G⟩:D2 f (w.heap.size+1) (AB 0) (AB 0) (AB 0):=qb3) | (go_at_call_of 24 (Value.int IntKind.i64 16);refine(Fv g _ _ _ (j) AQ AQ AQ).mono ?_;rintro e f ⟨x,rfl,Q,T,j,H⟩;obtain⟨y,s,A,q1,D,E,t⟩:D2 f w.heap.size (AB k) (AB n) (AB p):=qb3;obtain⟨u,m,C,l,B,q,G⟩:D2 f (w.heap.size+1) (AB 0) (AB 0) (AB 0):=qb3) | (go_at_call_of 46 (16:Nat);refine(FA g _ _ _ [-1,4,5,15,16,31,32,63,64,255,32768,-32769,1000000000,-1000000000,20,10] _ (Ci j _) AQ (Dp (by simp[Gn,go_sem])) AU BU AU AU).mono ?_;rintro e f ⟨x,rfl,R,j,H⟩;obtain⟨y,s,A,q1,D,E,t⟩:D2 f w.heap.size (AB k) (AB n) (AB p):=qb3;obtain⟨u,m,C,l,B,q,G⟩:D2 f (w.heap.size+1) (AB 0) (AB 0) (AB 0):=qb3) | (go_at_call_of 46 (5:Nat);refine(FA g _ _ _ [-1,0,1,6,7] _ (Ci j _) AQ (Dp (by simp[Gn,go_sem])) AU BU AU AU).mono ?_;rintro e f ⟨x,rfl,R,j,H⟩;obtain⟨y,s,A,q1,D,E,t⟩:D2 f w.heap.size (AB k) (AB n) (AB p):=qb3;obtain⟨u,m,C,l,B,q,G⟩:D2 f (w.heap.size+1) (AB 0) (AB 0) (AB 0):=qb3) | (go_at_call 117;refine(Yo _ _).mono ?_;rw[N.out];rintro e Y ⟨rfl,rfl⟩))
 all_goals
  refine bodyPost_ret (by simp[results,results119,go_sem,m,l,q];rfl) rfl ?_;try simp only[C7,EA,DR] at*
  exact⟨⟨_,_,_⟩,rfl,KQ AQ,A3,A2⟩
def WR (g P:Nat)(a:Stil.CC)(w:World)(hr:Ij w g P)(f:P<=100000000000)(b:Small a):
  Calls prog 119 #[AH g, .agg #[AB a.kind,AB a.n,AB a.p]] w λe w'=>∃d:Stil.CC,e=.returned (.agg #[AB d.kind,AB d.n,AB d.p])/\Small d/\Ij w' g (P+3)/\w.grownBy w' (some g):=
 uI g P a.kind a.n a.p w hr f b
theorem ki (g P:Nat)(w:World)(hr:Ij w g P)(B:P<=10000000000):
  Calls prog 79 #[AH g] w λe w'=>∃d:Stil.CC,e=.returned (.agg #[AB d.kind,AB d.n,AB d.p])/\Small d/\Ij w' g (P+4)/\w.grownBy w' (some g):=by
 have A:=V8 hr;go_enter func79,ntmps79
 go_wp2_with (first | (go_at_call_of 46 (9:Nat);refine(FA g _ _ _ [1,1,2,3,3,4,6,7,8] _ (Ci (Ci hr _) _) AQ (Dp (by simp[Gn,go_sem])) AU BU AU AU).mono ?_;rintro e f ⟨x,rfl,y,q,j⟩;simp only[C7,EA,DR] at y;obtain⟨u,l,z,q1,s,m,t⟩:D2 f w.heap.size (AB 0) (AB 0) (AB 0):=qb3) | (go_at_call 74;refine(Pv g _ x _ q AQ AQ AQ).mono ?_;rintro e f ⟨d,rfl,hd,q,j⟩;have u:w.heap.size<f.heap.size:=CB A4 j.size;have l:f.cell? (AL w 0)=some (AB 0):=(by rw[Dk j A4 AQ];first | assumption | (simp[go_sem, *];done));have z:f.frozen? (AL w 0)=false:=(by rw[Gx j A4 AQ];first | assumption | (simp[go_sem, *];done));have q1:f.cell? (AL w 1)=some (AB 0):=(by rw[Dk j A4 AQ];first | assumption | (simp[go_sem, *];done));have s:f.frozen? (AL w 1)=false:=(by rw[Gx j A4 AQ];first | assumption | (simp[go_sem, *];done));have m:f.cell? (AL w 2)=some (AB 0):=(by rw[Dk j A4 AQ];first | assumption | (simp[go_sem, *];done));have t:f.frozen? (AL w 2)=false:=(by rw[Gx j A4 AQ];first | assumption | (simp[go_sem, *];done))))
 refine bodyPost_ret (v:=.agg #[AB d.kind,AB d.n,AB d.p]) (by simp[results,results79,go_sem,l,q1,m]) rfl ?_;exact⟨d,rfl,hd,A3,A2⟩
theorem V4 (g P:Nat)(w:World)(hr:Ij w g P)(B:P<=10000000000):
  Calls prog 75 #[AH g] w λe w'=>∃d:Stil.CC,e=.returned (.agg #[AB d.kind,AB d.n,AB d.p])/\Small d/\Ij w' g (P+4)/\w.grownBy w' (some g):=by
 have A:=V8 hr;go_enter func75,ntmps75
 go_wp2_with (first | (go_at_call_of 46 (7:Nat);refine(FA g _ _ _ [9,9,9,11,11,7,8] _ (Ci (Ci hr _) _) AQ (Dp (by simp[Gn,go_sem])) AU BU AU AU).mono ?_;rintro e f ⟨x,rfl,y,q,j⟩;simp only[C7,EA,DR] at y;obtain⟨u,l,z,q1,s,m,t⟩:D2 f w.heap.size (AB 0) (AB 0) (AB 0):=qb3) | (go_at_call 74;refine(Pv g _ x _ q AQ AQ AQ).mono ?_;rintro e f ⟨d,rfl,hd,q,j⟩;have u:w.heap.size<f.heap.size:=CB A4 j.size;have l:f.cell? (AL w 0)=some (AB 0):=(by rw[Dk j A4 AQ];first | assumption | (simp[go_sem, *];done));have z:f.frozen? (AL w 0)=false:=(by rw[Gx j A4 AQ];first | assumption | (simp[go_sem, *];done));have q1:f.cell? (AL w 1)=some (AB 0):=(by rw[Dk j A4 AQ];first | assumption | (simp[go_sem, *];done));have s:f.frozen? (AL w 1)=false:=(by rw[Gx j A4 AQ];first | assumption | (simp[go_sem, *];done));have m:f.cell? (AL w 2)=some (AB 0):=(by rw[Dk j A4 AQ];first | assumption | (simp[go_sem, *];done));have t:f.frozen? (AL w 2)=false:=(by rw[Gx j A4 AQ];first | assumption | (simp[go_sem, *];done))))
 refine bodyPost_ret (v:=.agg #[AB d.kind,AB d.n,AB d.p]) (by simp[results,results75,go_sem,l,q1,m]) rfl ?_;exact⟨d,rfl,hd,A3,A2⟩
theorem Zj (g P:Nat)(w:World)(hr:Ij w g P)(B:P<=10000000000):
  Calls prog 76 #[AH g] w λe w'=>∃d:Stil.CC,e=.returned (.agg #[AB d.kind,AB d.n,AB d.p])/\Small d/\Ij w' g (P+4)/\w.grownBy w' (some g):=by
 have A:=V8 hr;go_enter func76,ntmps76
 go_wp2_with (first | (go_at_call_of 46 (5:Nat);refine(FA g _ _ _ [10,10,10,12,13] _ (Ci (Ci hr _) _) AQ (Dp (by simp[Gn,go_sem])) AU BU AU AU).mono ?_;rintro e f ⟨x,rfl,y,q,j⟩;simp only[C7,EA,DR] at y;obtain⟨u,l,z,q1,s,m,t⟩:D2 f w.heap.size (AB 0) (AB 0) (AB 0):=qb3) | (go_at_call 74;refine(Pv g _ x _ q AQ AQ AQ).mono ?_;rintro e f ⟨d,rfl,hd,q,j⟩;have u:w.heap.size<f.heap.size:=CB A4 j.size;have l:f.cell? (AL w 0)=some (AB 0):=(by rw[Dk j A4 AQ];first | assumption | (simp[go_sem, *];done));have z:f.frozen? (AL w 0)=false:=(by rw[Gx j A4 AQ];first | assumption | (simp[go_sem, *];done));have q1:f.cell? (AL w 1)=some (AB 0):=(by rw[Dk j A4 AQ];first | assumption | (simp[go_sem, *];done));have s:f.frozen? (AL w 1)=false:=(by rw[Gx j A4 AQ];first | assumption | (simp[go_sem, *];done));have m:f.cell? (AL w 2)=some (AB 0):=(by rw[Dk j A4 AQ];first | assumption | (simp[go_sem, *];done));have t:f.frozen? (AL w 2)=false:=(by rw[Gx j A4 AQ];first | assumption | (simp[go_sem, *];done))))
 refine bodyPost_ret (v:=.agg #[AB d.kind,AB d.n,AB d.p]) (by simp[results,results76,go_sem,l,q1,m]) rfl ?_;exact⟨d,rfl,hd,A3,A2⟩
theorem eS (g P:Nat)(w:World)(hr:Ij w g P)(F:P<=10000000000):
  Calls prog 118 #[AH g] w λe w'=>∃d:Stil.CC,e=.returned (.agg #[AB d.kind,AB d.n,AB d.p])/\Small d/\Ij w' g (P+8)/\w.grownBy w' (some g):=by
 have J:=V8 hr;go_enter func118,ntmps118
 go_wp2_with (first | (go_at_call_of 24 (Value.int IntKind.i64 13);refine(Fv g _ _ _ Av AQ AQ AQ).mono ?_;rintro e j ⟨x,rfl,B,D,t,z⟩;obtain⟨s,l,u,q1,y,m,q⟩:D2 j w.heap.size (AB 0) (AB 0) (AB 0):=qb3) | (go_at_call 74;refine(Pv g _ _ _ Av AQ AQ AQ).mono ?_;rintro e A ⟨d,rfl,hd,t,z⟩;obtain⟨s,l,u,q1,y,m,q⟩:D2 A w.heap.size (AB 0) (AB 0) (AB 0):=qb3) | (go_at_call_of 24 (Value.int IntKind.i64 20);refine(Fv g _ _ _ Av AQ AQ AQ).mono ?_;rintro e j ⟨x,rfl,B,D,t,z⟩;obtain⟨s,l,u,q1,y,m,q⟩:D2 j w.heap.size (AB 0) (AB 0) (AB 0):=qb3;obtain⟨E,K,I,H,G,M,L⟩:QbD j A.heap.size d:=qbD) | (go_at_call 119;refine(WR g _ d _ Av AQ hd).mono ?_;rintro e j ⟨f,rfl,C,t,z⟩;obtain⟨s,l,u,q1,y,m,q⟩:D2 j w.heap.size (AB 0) (AB 0) (AB 0):=qb3))
 ·refine bodyPost_ret (v:=.agg #[AB f.kind,AB f.n,AB f.p]) (by simp[results,results118,go_sem,l,q1,m]) rfl ?_
  exact⟨f,rfl,C,A3,A2⟩
 ·refine bodyPost_ret (v:=.agg #[AB d.kind,AB d.n,AB d.p]) (by simp[results,results118,go_sem,l,q1,m]) rfl ?_
  exact⟨d,rfl,hd,A3,A2⟩
