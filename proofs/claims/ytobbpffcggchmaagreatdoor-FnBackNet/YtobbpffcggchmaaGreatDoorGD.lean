import Derived.Test.YtobbpffcggchmaaGreatDoorGT
import Derived.Test.YtobbpffcggchmaaGreatDoorI3
import Derived.Deep.RegionWith
set_option maxHeartbeats 4000000
set_option maxRecDepth 100000
namespace Go.Proofs.YtobbpffcggchmaaGreatDoor
open Tryz
open Stil
open Go.RowKit Go.Sort Go.BigFrame
variable {P c g o p:Nat}{W a w':World}{ob:Obj}{r:Option Nat}{v:Value}
def Kq (w:World)(g P:Nat):Prop:=∃(a:Option Addr) (len cap p:Nat),w.cell? ⟨g,0,none⟩=some (.slice a len cap)/\w.cell? ⟨g,1,none⟩=some (.int .i64 p)/\w.frozen? ⟨g,1,none⟩=false/\p<=P/\len<=2000/\
 ∀i,i<len->∃b o z,a=some ⟨b,o,none⟩/\b<g/\w.cell? ⟨b,o+i,none⟩=some (.int .u8 z)/\0<=z/\z<256
theorem Azj (w:World)(g o:Nat)(v:Value):w.grownBy (w.setCell ⟨g,o,none⟩ v) (some g):=by
 refine⟨rfl,rfl,rfl,spz,λk d b=>?_⟩;simp only[World.setCell,Ba9];rw[if_neg (λe=>b (by rw[e]))]
theorem An5 {w:World}{a:Option Addr}{len cap:Nat}(e:w.cell? ⟨g,0,none⟩=some (.slice a len cap))(l:w.cell? ⟨g,1,none⟩=some (.int .i64 p))(m:w.frozen? ⟨g,1,none⟩=false)(t:p<=P)(j:len<=2000)
  (q:∀i,i<len->∃b o z,a=some ⟨b,o,none⟩/\b<g/\w.cell? ⟨b,o+i,none⟩=some (.int .u8 z)/\0<=z/\z<256):
  Kq (w.setCell ⟨g,1,none⟩ (.int .i64 ((p:Int)+1))) g (P+1)/\w.grownBy (w.setCell ⟨g,1,none⟩ (.int .i64 ((p:Int)+1))) (some g):=by
 refine⟨⟨a,len,cap,p+1,?_,?_,?_,omz,j,λi hi=>?_⟩,Azj _ _ _ _⟩
 ·simp[go_sem,e]
 ·simp[go_sem,l]
 ·simp[go_sem,m]
 ·obtain⟨b,o,z,d,n,k,s,f⟩:=q i hi
  have u:¬b=g:=omz
  have x:¬g=b:=omz
  exact⟨b,o,z,d,n,by simp[go_sem,k],s,f⟩
theorem A60 (a b:Nat)(i:a<4611686018427387904)(j:b<4611686018427387904):∃m:Nat,bits .xor .i64 (a:Int) (b:Int)=(m:Int):=by
 have d:a % 2 ^ 64=a:=Nat.mod_eq_of_lt omz;have f:b % 2 ^ 64=b:=Nat.mod_eq_of_lt omz;have k:a ^^^ b<2 ^ 62:=Nat.xor_lt_two_pow (n:=62) omz omz;refine⟨a ^^^ b,?_⟩;have e:bits .xor .i64 (a:Int) (b:Int)=IntKind.i64.wrap ((a ^^^ b:Nat):Int):=by
  simp only[bits,BitVec.ofInt_natCast,BitVec.toNat_xor,BitVec.toNat_ofNat];rw[show IntKind.i64.bits=64 from rfl,d,f]
 rw[e,IntKind.wrap_i64];omega
theorem Ais {w:World}(h:Kq w g P)(n:Nat):Kq (w.drewN n) g P:=h
theorem grown_drewN {w:World}(h:w.grownBy w' (some g))(n:Nat):w.grownBy (w'.drewN n) (some g):=⟨h.os,h.tape,h.output,h.size,h.block⟩
theorem Abi (w:World)(r:Option Nat):w.grownBy w r:=⟨rfl,rfl,rfl,A88 _,λ_ _ _=>rfl⟩
theorem Rt {b c:World}(h:a.grownBy b r)(k:b.grownBy c r):a.grownBy c r:=
 ⟨k.os.trans h.os,k.tape.trans h.tape,k.output.trans h.output,A9f h.size k.size,λj e d=>(k.block j (A82 e h.size) d).trans (h.block j e d)⟩
theorem grown_below {b:World}(h:Below a.heap.size a b)(r:Option Nat):a.grownBy b r:=⟨h.os,h.tape,h.output,h.size,λk d _=>h.block k d⟩
theorem Ags {b:World}(h:a.grownBy b (some g))(hg:g<=a.heap.size):Below g a b:=⟨h.os,h.tape,h.output,h.size,λk d=>h.block k omz (by intro e;cases e;omega)⟩
theorem Gm (g P:Nat)(n:Int)(w:World)(hr:Kq w g P)(hP:P<=1000000000000)(aa:n<=1000000)(S:-1000000<=n):
  Calls prog 13 #[.pointer (some ⟨g,0,none⟩), .int .i64 n] w λe w'=>∃x:Int,e=.returned (.int .i64 x)/\0<=x/\(x<n\/x=0)/\Kq w' g (P+1)/\w.grownBy w' (some g):=by
 obtain⟨a,len,cap,p,s,l,A,u,k,d⟩:=hr;by_cases I:len=0
 ·subst I
  have f:=An5 s l A u k d;clear d;go_enter func13,ntmps13
  go_wp2
  all_goals go_ret
  all_goals exact⟨0,rfl,omz,omz,f⟩
 by_cases H:n<1
 ·have f:=An5 s l A u k d
  have M:((len:Int)==0)=false:=by rw[A95];omega
  have ac:decide (n<1)=true:=by simpa using H
  clear d;go_enter func13,ntmps13
  go_wp2
  go_ret;exact⟨0,rfl,omz,omz,f⟩
 ·have M:((len:Int)==0)=false:=by rw[A95];omega
  have f:=An5 s l A u k d;by_cases R:p<len
  ·obtain⟨b,o,z,rfl,K,G,J,O⟩:=d p R
   have C:0<=z % n/\z % n<n:=⟨Int.emod_nonneg _ omz,Int.emod_lt_of_pos _ omz⟩
   clear d;go_enter func13,ntmps13
   go_wp2
   go_ret;exact⟨_,rfl,C.1,Or.inl C.2,f⟩
  ·obtain⟨b,o,z,rfl,K,G,J,O⟩:=d (p % len) (Nat.mod_lt _ omz)
   obtain⟨X,T,L,E,_,N,U,Y⟩:=d ((p*7+3) % len) (Nat.mod_lt _ omz);simp only[A96,Addr.mk.injEq,Bbx] at E;obtain⟨rfl,rfl⟩:=E;clear d;obtain⟨q,i⟩:∃q,q=p % len:=⟨_,rfl⟩
   obtain⟨r,hr⟩:∃r,r=(p*7+3) % len:=⟨_,rfl⟩
   obtain⟨t,j⟩:∃t,t=p / len:=⟨_,rfl⟩
   have af:q<len:=by rw[i];exact Nat.mod_lt _ omz
   have Z:r<len:=by rw[hr];exact Nat.mod_lt _ omz
   have ae:t<=p:=by rw[j];exact Nat.div_le_self _ _
   have ag:(p:Int) % (len:Int)=q:=by rw[i];simp
   have V:((p:Int)*7+3) % (len:Int)=r:=by rw[hr];simp
   have ab:(p:Int) / (len:Int)=t:=by rw[j];simp
   rw[<-i] at G;rw[<-hr] at N;clear i hr j;go_enter func13,ntmps13
   go_wp2
   go_quiet (fail)
   go_wp2
   go_ret;obtain⟨y,D⟩:∃y:Nat,z*131+L*1117+(p:Int)*29+(t:Int)*53=(y:Int):=Baj omz;have Q:y<4611686018427387904:=omz
   obtain⟨m,F⟩:=A60 y (y / 64) Q omz;have B:((y:Int) / 64)=((y / 64:Nat):Int):=omz
   refine⟨_,rfl,?_,?_,Ais f.1 _,grown_drewN f.2 _⟩
   ·rw[D,B,F];exact Int.tmod_nonneg _ omz
   ·left;rw[D,B,F];exact Int.tmod_lt_of_pos _ omz
theorem Gu {w:World}{b:Nat}(h:w.grownBy w' (some g))(d:b<w.heap.size)(f:b≠g):w'.cell? ⟨b,o,none⟩=w.cell? ⟨b,o,none⟩:=by
 unfold World.cell?;rw[h.block b d (by intro e;cases e;exact f rfl)]
theorem Gv {w:World}{b:Nat}(h:w.grownBy w' (some g))(d:b<w.heap.size)(f:b≠g):w'.frozen? ⟨b,o,none⟩=w.frozen? ⟨b,o,none⟩:=by
 unfold World.frozen?;rw[h.block b d (by intro e;cases e;exact f rfl)]
theorem X5 {w:World}(h:w.grownBy a r)(o:Obj):w.grownBy (a.alloc o) r:=Rt h (grown_below (Aa a o) r)
theorem A22 {w:World}(h:w.grownBy a r)(n:Nat):w.grownBy (a.drewN n) r:=⟨h.os,h.tape,h.output,h.size,h.block⟩
theorem A5r {w:World}(h:w.grownBy a r):w.grownBy a.drew r:=⟨h.os,h.tape,h.output,h.size,h.block⟩
theorem A4b {w:World}{p:Addr}(e:w.heap.size<=p.block)(h:w.grownBy a r)(v:Value):w.grownBy (a.setCell p v) r:=
 ⟨h.os,h.tape,h.output,by simpa using h.size,λk b d=>by
  rw[<-h.block k b d];simp only[World.setCell,Ba9]
  rw[if_neg omz]⟩
theorem Abj {w b:World}(h:w.grownBy a r)(k:a.grownBy b r):w.grownBy b r:=Rt h k
theorem glA {w:World}(h:w.grownBy W r:=by(repeat (first | with_reducible exact Abi _ _ | with_reducible assumption | with_reducible refine A4b (by first | exact A88 _ | (simp;done) | (simp;omega) | omega) ?_ _ | with_reducible refine X5 ?_ _ | with_reducible refine A22 ?_ _ | with_reducible refine A5r ?_ | with_reducible refine Abj ?_ (by with_reducible assumption)))):w.grownBy W r:=h
theorem E8 {w:World}(h:Kq w g P)(o:Obj):Kq (w.alloc o) g P:=by
 obtain⟨a,len,cap,p,f,m,A,t,l,s⟩:=h;have e:g<w.heap.size:=by
  unfold World.cell? at f;cases j:w.heap[g]? with
  | none=>simp[j] at f
  | some x=>exact(Array.getElem?_eq_some_iff.1 j).1
 have d:=Aa w o;refine⟨a,len,cap,p,by rw[d.cell (p:=⟨g,0,none⟩) e];exact f,by rw[d.cell (p:=⟨g,1,none⟩) e];exact m,by rw[d.frozen (p:=⟨g,1,none⟩) e];exact A,t,l,λi hi=>?_⟩;obtain⟨b,q,z,k,n,y,B,u⟩:=s i hi;exact⟨b,q,z,k,n,by rw[d.cell (p:=⟨b,q+i,none⟩) (by show b<_;omega)];exact y,B,u⟩
theorem Sr {w:World}(h:Kq w g P):g<w.heap.size:=by
 obtain⟨a,len,cap,p,d,_⟩:=h;unfold World.cell? at d;cases b:w.heap[g]? with
 | none=>simp[b] at d
 | some x=>exact(Array.getElem?_eq_some_iff.1 b).1
theorem U9 {w:World}{Q:Nat}(h:Kq w g P)(i:P<=Q):Kq w g Q:=by
 obtain⟨a,len,cap,p,f,b,e,j,d⟩:=h;exact⟨a,len,cap,p,f,b,e,omz,d⟩
theorem Zy {w:World}{b:Nat}(h:Kq w g P)(y:g<b)(v:Value):Kq (w.setCell ⟨b,o,none⟩ v) g P:=by
 obtain⟨a,len,cap,p,m,k,u,n,j,f⟩:=h;have B:¬g=b:=omz
 have A:¬b=g:=omz
 refine⟨a,len,cap,p,by simp[go_sem,m],by simp[go_sem,k],by simp[go_sem,u],n,j,λi hi=>?_⟩;obtain⟨c,q,z,d,l,t,s,e⟩:=f i hi;have C:¬c=b:=omz
 have x:¬b=c:=omz
 exact⟨c,q,z,d,l,by simp[go_sem,t],s,e⟩
theorem Df {b:Nat}(h:c≠b):(W.setCell ⟨b,o,none⟩ v).cell? ⟨c,p,none⟩=W.cell? ⟨c,p,none⟩:=by
 have d:¬b=c:=λe=>h e.symm
 simp[go_sem]
theorem Qp {b:Nat}(h:p≠o):(W.setCell ⟨b,o,none⟩ v).cell? ⟨b,p,none⟩=W.cell? ⟨b,p,none⟩:=by
 have d:¬o=p:=λe=>h e.symm
 simp[go_sem]
theorem Rx {b:Nat}{u:Value}(h:W.cell? ⟨b,o,none⟩=some u):(W.setCell ⟨b,o,none⟩ v).cell? ⟨b,o,none⟩=some v:=by
 simp[go_sem,h]
theorem Uo {b:Nat}:(W.setCell ⟨b,o,none⟩ v).frozen? ⟨c,p,none⟩=W.frozen? ⟨c,p,none⟩:=by
 simp[go_sem]
theorem H9 (h:c<W.heap.size):(W.alloc ob).cell? ⟨c,p,none⟩=W.cell? ⟨c,p,none⟩:=(Aa W ob).cell (p:=⟨c,p,none⟩) h
theorem Jw (h:c<W.heap.size):(W.alloc ob).frozen? ⟨c,p,none⟩=W.frozen? ⟨c,p,none⟩:=(Aa W ob).frozen (p:=⟨c,p,none⟩) h
theorem Axd {w:World}(h:Kq w g P):Kq w.drew g P:=h
theorem rlA {w:World}(h:Kq w g P:=by(repeat (first | with_reducible assumption | with_reducible refine Zy ?_ (by first | omega | (simp;omega)) _ | with_reducible refine E8 ?_ _ | with_reducible refine Ais ?_ _ | with_reducible refine Axd ?_ | exact U9 (by with_reducible assumption) (by omega)))):Kq w g P:=h
theorem Xk {a:Addr}:W.drew.cell? a=W.cell? a:=rfl
theorem cfA {a:Addr}{o:Option Value}(h:W.cell? a=o:=by(repeat (first | with_reducible assumption | with_reducible refine Xk.trans ?_ | with_reducible refine(Df (by omega)).trans ?_ | with_reducible refine(Qp (by omega)).trans ?_ | with_reducible refine(H9 ltA).trans ?_ | with_reducible apply Rx | (simp[go_sem];done)))):W.cell? a=o:=h
theorem Ru {a:Addr}:W.drew.frozen? a=W.frozen? a:=rfl
theorem ffA {a:Addr}{o:Bool}(h:W.frozen? a=o:=by(repeat (first | with_reducible assumption | with_reducible refine Ru.trans ?_ | with_reducible refine Uo.trans ?_ | with_reducible refine(Jw ltA).trans ?_ | (simp[go_sem];done)))):W.frozen? a=o:=h
theorem gcA {w:World}{b:Nat}{v:Option Value}(hg:w.grownBy W (some g))(h1:b<w.heap.size:=by first | with_reducible assumption | (simp;done) | (simp;omega))(h2:b≠g:=by omega)(h3:w.cell? ⟨b,o,none⟩=v:=by(repeat (first | with_reducible assumption | with_reducible refine Xk.trans ?_ | with_reducible refine(Df (by omega)).trans ?_ | with_reducible refine(Qp (by omega)).trans ?_ | with_reducible refine(H9 ltA).trans ?_ | with_reducible apply Rx | (simp[go_sem];done)))):W.cell? ⟨b,o,none⟩=v:=(Gu hg h1 h2).trans h3
theorem gfA {w:World}{b:Nat}{v:Bool}(hg:w.grownBy W (some g))(h1:b<w.heap.size:=by first | with_reducible assumption | (simp;done) | (simp;omega))(h2:b≠g:=by omega)(h3:w.frozen? ⟨b,o,none⟩=v:=by(repeat (first | with_reducible assumption | with_reducible refine Ru.trans ?_ | with_reducible refine Uo.trans ?_ | with_reducible refine(Jw ltA).trans ?_ | (simp[go_sem];done)))):W.frozen? ⟨b,o,none⟩=v:=(Gv hg h1 h2).trans h3
theorem A41 {w:World}{b:Nat}(d:g<b)(h:Kq w g P):Kq (w.setCell ⟨b,o,none⟩ v) g P:=Zy h d v
theorem raA {w:World}(h:Kq w g P:=by(repeat (first | with_reducible assumption | with_reducible apply E8 | with_reducible apply Ais | with_reducible apply Axd | (with_reducible apply A41;first | omega | (simp;omega))))):Kq w g P:=h
theorem Aa7 (g P b cap:Nat)(l:List Int)(w:World)(hr:Kq w g P)(k:P<=1000000000000)(f:Afq w b 0 l)(s:b<w.heap.size)(u:b≠g)(y:1<=l.length)(z:l.length<=1000):
  Calls prog 17 #[.pointer (some ⟨g,0,none⟩), .slice (some ⟨b,0,none⟩) l.length cap] w λe w'=>∃x:Int,e=.returned (.int .i64 x)/\x∈l/\Kq w' g (P+1)/\w.grownBy w' (some g):=by
 have t:Hid (Afq w b 0 l):=f;clear f;go_enter func17,ntmps17
 go_wp2_with (go_at_call 13;refine(Gm g P _ _ hr k omz omz).mono ?_;rintro e n ⟨x,rfl,q,A,m,d⟩;obtain⟨j,rfl⟩:=Baj q;have i:j<l.length:=omz;have B:n.cell? ⟨b,j,none⟩=some (.int .i64 l[j]):=(by rw[Gu d s u];have:=t j i;rwa [A9c] at this))
 go_ret;exact⟨_,rfl,A9a i,m,d⟩
def Small (d:Stil.Dev):Prop:=(-10000000000<=d.kind/\d.kind<=10000000000)/\(-10000000000<=d.n/\d.n<=10000000000)/\(-10000000000<=d.p/\d.p<=10000000000)
theorem Small.fits {d:Stil.Dev}(h:Small d):d.fits:=by
 obtain⟨⟨a,b⟩,⟨c,d⟩,⟨e,f⟩⟩:=h;exact⟨⟨omz,omz⟩,⟨omz,omz⟩,⟨omz,omz⟩⟩
theorem Zr {k n p:Int}(h:-10000000000<=k/\k<=10000000000/\-10000000000<=n/\n<=10000000000/\-10000000000<=p/\p<=10000000000):Small ⟨k,n,p⟩:=⟨⟨h.1,h.2.1⟩,⟨h.2.2.1,h.2.2.2.1⟩,⟨h.2.2.2.2.1,h.2.2.2.2.2⟩⟩
theorem Ahy (k:Int):0<=Ie k/\Ie k<=64:=by
 unfold Ie;split
 ·omega
 ·split
  ·omega
  ·split
   ·omega
   ·split<;>omega
theorem Om (g P:Nat)(k:Int)(w:World)(hr:Kq w g P)(I:P<=100000000000)(L:-1000000<=k)(E:k<=1000000):
  Calls prog 41 #[.pointer (some ⟨g,0,none⟩), .int .i64 k] w λe w'=>∃d:Stil.Dev,e=.returned (.agg #[.int .i64 d.kind, .int .i64 d.n, .int .i64 d.p])/\Small d/\Kq w' g (P+3)/\w.grownBy w' (some g):=by
 have hg:=Sr hr;have G:¬w.heap.size=g:=omz
 have J:=Ahy k;by_cases C:k=11
 ·subst C
  go_enter func41,ntmps41
  go_wp2_with (go_at_call_of 17 (12:Nat);refine(Aa7 g _ _ _ [0,1,2,3,5,-1,-7,10,100,32767,-32768,1000] _ (E8 (E8 hr _) _) omz (Di (by simp[F6,go_sem])) spz yAh spz spz).mono ?_;rintro e i ⟨x,rfl,D,m,f⟩;have t:w.heap.size<i.heap.size:=A82 ltA f.size;obtain⟨l,q,q1,s,j,u⟩:i.cell? ⟨w.heap.size,0,none⟩=some (.int .i64 0)/\i.frozen? ⟨w.heap.size,0,none⟩=false/\i.cell? ⟨w.heap.size,1,none⟩=some (.int .i64 0)/\i.frozen? ⟨w.heap.size,1,none⟩=false/\i.cell? ⟨w.heap.size,2,none⟩=some (.int .i64 0)/\i.frozen? ⟨w.heap.size,2,none⟩=false:=⟨gcA f,gfA f,gcA f,gfA f,gcA f,gfA f⟩)
  all_goals
   refine bodyPost_ret (by simp[results,results41,go_sem,l,q1,j];rfl) rfl ?_;try simp only[A9o,A99,Bax] at*
   exact⟨⟨_,_,_⟩,rfl,Zr omz,rlA,glA⟩
 ·by_cases A:k=12
  ·subst A
   go_enter func41,ntmps41
   go_wp2_with (first | (go_at_call_of 17 (11:Nat);refine(Aa7 g _ _ _ [0,1,5,-5,25,-15,999999999,-999999999,3,1001,7] _ (E8 (E8 hr _) _) omz (Di (by simp[F6,go_sem])) spz yAh spz spz).mono ?_;rintro e i ⟨x,rfl,D,m,f⟩;have t:w.heap.size<i.heap.size:=A82 ltA f.size;obtain⟨l,q,q1,s,j,u⟩:i.cell? ⟨w.heap.size,0,none⟩=some (.int .i64 0)/\i.frozen? ⟨w.heap.size,0,none⟩=false/\i.cell? ⟨w.heap.size,1,none⟩=some (.int .i64 0)/\i.frozen? ⟨w.heap.size,1,none⟩=false/\i.cell? ⟨w.heap.size,2,none⟩=some (.int .i64 0)/\i.frozen? ⟨w.heap.size,2,none⟩=false:=⟨gcA f,gfA f,gcA f,gfA f,gcA f,gfA f⟩) | (go_at_call_of 13 (Value.int IntKind.i64 6);refine(Gm g _ _ _ (m) omz omz omz).mono ?_;rintro e i ⟨x,rfl,z,y,m,f⟩;have t:w.heap.size<i.heap.size:=A82 ltA f.size;obtain⟨l,q,q1,s,j,u⟩:i.cell? ⟨w.heap.size,0,none⟩=some (.int .i64 0)/\i.frozen? ⟨w.heap.size,0,none⟩=false/\i.cell? ⟨w.heap.size,1,none⟩=some (.int .i64 0)/\i.frozen? ⟨w.heap.size,1,none⟩=false/\i.cell? ⟨w.heap.size,2,none⟩=some (.int .i64 0)/\i.frozen? ⟨w.heap.size,2,none⟩=false:=⟨gcA f,gfA f,gcA f,gfA f,gcA f,gfA f⟩))
   all_goals
    refine bodyPost_ret (by simp[results,results41,go_sem,l,q1,j];rfl) rfl ?_;try simp only[A9o,A99,Bax] at*
    exact⟨⟨_,_,_⟩,rfl,Zr omz,rlA,glA⟩
  ·by_cases B:k=13
   ·subst B
    go_enter func41,ntmps41
    go_wp2_with ((go_at_call_of 13 (Value.int IntKind.i64 4);refine(Gm g _ _ _ (E8 hr _) omz omz omz).mono ?_;rintro e i ⟨x,rfl,z,y,m,f⟩;have t:w.heap.size<i.heap.size:=A82 ltA f.size;obtain⟨l,q,q1,s,j,u⟩:i.cell? ⟨w.heap.size,0,none⟩=some (.int .i64 0)/\i.frozen? ⟨w.heap.size,0,none⟩=false/\i.cell? ⟨w.heap.size,1,none⟩=some (.int .i64 0)/\i.frozen? ⟨w.heap.size,1,none⟩=false/\i.cell? ⟨w.heap.size,2,none⟩=some (.int .i64 0)/\i.frozen? ⟨w.heap.size,2,none⟩=false:=⟨gcA f,gfA f,gcA f,gfA f,gcA f,gfA f⟩))
    all_goals
     refine bodyPost_ret (by simp[results,results41,go_sem,l,q1,j];rfl) rfl ?_;try simp only[A9o,A99,Bax] at*
     exact⟨⟨_,_,_⟩,rfl,Zr omz,rlA,glA⟩
   ·have F:(k==11)=false:=by simpa using C
    have M:(k==12)=false:=by simpa using A
    have K:(k==13)=false:=by simpa using B
    go_enter func41,ntmps41
    go_wp2_with (first | (go_at_call_of 13 (Value.int IntKind.i64 4);refine(Gm g _ _ _ (E8 hr _) omz omz omz).mono ?_;rintro e i ⟨x,rfl,z,y,m,f⟩;have t:w.heap.size<i.heap.size:=A82 ltA f.size;obtain⟨l,q,q1,s,j,u⟩:i.cell? ⟨w.heap.size,0,none⟩=some (.int .i64 0)/\i.frozen? ⟨w.heap.size,0,none⟩=false/\i.cell? ⟨w.heap.size,1,none⟩=some (.int .i64 0)/\i.frozen? ⟨w.heap.size,1,none⟩=false/\i.cell? ⟨w.heap.size,2,none⟩=some (.int .i64 0)/\i.frozen? ⟨w.heap.size,2,none⟩=false:=⟨gcA f,gfA f,gcA f,gfA f,gcA f,gfA f⟩) | (go_at_call_of 13 (Value.int IntKind.i64 6);refine(Gm g _ _ _ (m) omz omz omz).mono ?_;rintro e i ⟨x,rfl,z,y,m,f⟩;have t:w.heap.size<i.heap.size:=A82 ltA f.size;obtain⟨l,q,q1,s,j,u⟩:i.cell? ⟨w.heap.size,0,none⟩=some (.int .i64 0)/\i.frozen? ⟨w.heap.size,0,none⟩=false/\i.cell? ⟨w.heap.size,1,none⟩=some (.int .i64 0)/\i.frozen? ⟨w.heap.size,1,none⟩=false/\i.cell? ⟨w.heap.size,2,none⟩=some (.int .i64 0)/\i.frozen? ⟨w.heap.size,2,none⟩=false:=⟨gcA f,gfA f,gcA f,gfA f,gcA f,gfA f⟩) | (go_at_call_of 13 (Value.int IntKind.i64 (Ie k));refine(Gm g _ _ _ (m) omz omz omz).mono ?_;rintro e i ⟨x,rfl,z,y,m,f⟩;have t:w.heap.size<i.heap.size:=A82 ltA f.size;obtain⟨l,q,q1,s,j,u⟩:i.cell? ⟨w.heap.size,0,none⟩=some (.int .i64 0)/\i.frozen? ⟨w.heap.size,0,none⟩=false/\i.cell? ⟨w.heap.size,1,none⟩=some (.int .i64 0)/\i.frozen? ⟨w.heap.size,1,none⟩=false/\i.cell? ⟨w.heap.size,2,none⟩=some (.int .i64 0)/\i.frozen? ⟨w.heap.size,2,none⟩=false:=⟨gcA f,gfA f,gcA f,gfA f,gcA f,gfA f⟩) | (go_at_call 69;refine(Wv _ _).mono ?_;rintro e H ⟨rfl,rfl⟩))
    all_goals
     refine bodyPost_ret (by simp[results,results41,go_sem,l,q1,j];rfl) rfl ?_;try simp only[A9o,A99,Bax] at*
     exact⟨⟨_,_,_⟩,rfl,Zr omz,rlA,glA⟩
theorem Anx (g P:Nat)(k n p:Int)(w:World)(hr:Kq w g P)(V:P<=100000000000)(H:Small ⟨k,n,p⟩):
  Calls prog 71 #[.pointer (some ⟨g,0,none⟩), .agg #[.int .i64 k, .int .i64 n, .int .i64 p]] w λe w'=>∃d:Stil.Dev,e=.returned (.agg #[.int .i64 d.kind, .int .i64 d.n, .int .i64 d.p])/\Small d/\Kq w' g (P+3)/\w.grownBy w' (some g):=by
 have hg:=Sr hr;have Q:=Ahy k;obtain⟨⟨K,O⟩,⟨N,M⟩,⟨J,T⟩⟩:=H;simp only at K O N M J T;obtain⟨z,y⟩:∃z,z=Ie k:=⟨_,rfl⟩
 rw[<-y] at Q;have S:Hid (Ie k=z):=y.symm;clear y;go_enter func71,ntmps71
 go_wp2_with (first | (go_at_call_of 13 (Value.int IntKind.i64 6);refine(Gm g _ _ _ (E8 (E8 hr _) _) omz omz omz).mono ?_;rintro e i ⟨x,rfl,R,I,j,f⟩;have B:w.heap.size<i.heap.size:=A82 ltA f.size;have D:w.heap.size+1<i.heap.size:=A82 ltA f.size;obtain⟨u,s,q1,A,t,C,m,F,l,E,q,G⟩:i.cell? ⟨w.heap.size,0,none⟩=some (.int .i64 k)/\i.frozen? ⟨w.heap.size,0,none⟩=false/\i.cell? ⟨w.heap.size,1,none⟩=some (.int .i64 n)/\i.frozen? ⟨w.heap.size,1,none⟩=false/\i.cell? ⟨w.heap.size,2,none⟩=some (.int .i64 p)/\i.frozen? ⟨w.heap.size,2,none⟩=false/\i.cell? ⟨w.heap.size+1,0,none⟩=some (.int .i64 0)/\i.frozen? ⟨w.heap.size+1,0,none⟩=false/\i.cell? ⟨w.heap.size+1,1,none⟩=some (.int .i64 0)/\i.frozen? ⟨w.heap.size+1,1,none⟩=false/\i.cell? ⟨w.heap.size+1,2,none⟩=some (.int .i64 0)/\i.frozen? ⟨w.heap.size+1,2,none⟩=false:=⟨gcA f,gfA f,gcA f,gfA f,gcA f,gfA f,gcA f,gfA f,gcA f,gfA f,gcA f,gfA f⟩) | (go_at_call_of 13 (Value.int IntKind.i64 16);refine(Gm g _ _ _ (j) omz omz omz).mono ?_;rintro e i ⟨x,rfl,R,I,j,f⟩;have B:w.heap.size<i.heap.size:=A82 ltA f.size;have D:w.heap.size+1<i.heap.size:=A82 ltA f.size;obtain⟨u,s,q1,A,t,C,m,F,l,E,q,G⟩:i.cell? ⟨w.heap.size,0,none⟩=some (.int .i64 k)/\i.frozen? ⟨w.heap.size,0,none⟩=false/\i.cell? ⟨w.heap.size,1,none⟩=some (.int .i64 n)/\i.frozen? ⟨w.heap.size,1,none⟩=false/\i.cell? ⟨w.heap.size,2,none⟩=some (.int .i64 p)/\i.frozen? ⟨w.heap.size,2,none⟩=false/\i.cell? ⟨w.heap.size+1,0,none⟩=some (.int .i64 0)/\i.frozen? ⟨w.heap.size+1,0,none⟩=false/\i.cell? ⟨w.heap.size+1,1,none⟩=some (.int .i64 0)/\i.frozen? ⟨w.heap.size+1,1,none⟩=false/\i.cell? ⟨w.heap.size+1,2,none⟩=some (.int .i64 0)/\i.frozen? ⟨w.heap.size+1,2,none⟩=false:=⟨gcA f,gfA f,gcA f,gfA f,gcA f,gfA f,gcA f,gfA f,gcA f,gfA f,gcA f,gfA f⟩) | (go_at_call_of 17 (16:Nat);refine(Aa7 g _ _ _ [-1,4,5,15,16,31,32,63,64,255,32768,-32769,1000000000,-1000000000,20,10] _ (E8 j _) omz (Di (by simp[F6,go_sem])) spz yAh spz spz).mono ?_;rintro e i ⟨x,rfl,L,j,f⟩;have B:w.heap.size<i.heap.size:=A82 ltA f.size;have D:w.heap.size+1<i.heap.size:=A82 ltA f.size;obtain⟨u,s,q1,A,t,C,m,F,l,E,q,G⟩:i.cell? ⟨w.heap.size,0,none⟩=some (.int .i64 k)/\i.frozen? ⟨w.heap.size,0,none⟩=false/\i.cell? ⟨w.heap.size,1,none⟩=some (.int .i64 n)/\i.frozen? ⟨w.heap.size,1,none⟩=false/\i.cell? ⟨w.heap.size,2,none⟩=some (.int .i64 p)/\i.frozen? ⟨w.heap.size,2,none⟩=false/\i.cell? ⟨w.heap.size+1,0,none⟩=some (.int .i64 0)/\i.frozen? ⟨w.heap.size+1,0,none⟩=false/\i.cell? ⟨w.heap.size+1,1,none⟩=some (.int .i64 0)/\i.frozen? ⟨w.heap.size+1,1,none⟩=false/\i.cell? ⟨w.heap.size+1,2,none⟩=some (.int .i64 0)/\i.frozen? ⟨w.heap.size+1,2,none⟩=false:=⟨gcA f,gfA f,gcA f,gfA f,gcA f,gfA f,gcA f,gfA f,gcA f,gfA f,gcA f,gfA f⟩) | (go_at_call_of 17 (5:Nat);refine(Aa7 g _ _ _ [-1,0,1,6,7] _ (E8 j _) omz (Di (by simp[F6,go_sem])) spz yAh spz spz).mono ?_;rintro e i ⟨x,rfl,L,j,f⟩;have B:w.heap.size<i.heap.size:=A82 ltA f.size;have D:w.heap.size+1<i.heap.size:=A82 ltA f.size;obtain⟨u,s,q1,A,t,C,m,F,l,E,q,G⟩:i.cell? ⟨w.heap.size,0,none⟩=some (.int .i64 k)/\i.frozen? ⟨w.heap.size,0,none⟩=false/\i.cell? ⟨w.heap.size,1,none⟩=some (.int .i64 n)/\i.frozen? ⟨w.heap.size,1,none⟩=false/\i.cell? ⟨w.heap.size,2,none⟩=some (.int .i64 p)/\i.frozen? ⟨w.heap.size,2,none⟩=false/\i.cell? ⟨w.heap.size+1,0,none⟩=some (.int .i64 0)/\i.frozen? ⟨w.heap.size+1,0,none⟩=false/\i.cell? ⟨w.heap.size+1,1,none⟩=some (.int .i64 0)/\i.frozen? ⟨w.heap.size+1,1,none⟩=false/\i.cell? ⟨w.heap.size+1,2,none⟩=some (.int .i64 0)/\i.frozen? ⟨w.heap.size+1,2,none⟩=false:=⟨gcA f,gfA f,gcA f,gfA f,gcA f,gfA f,gcA f,gfA f,gcA f,gfA f,gcA f,gfA f⟩) | (go_at_call 69;refine(Wv _ _).mono ?_;rw[S.out];rintro e U ⟨rfl,rfl⟩))
 all_goals
  refine bodyPost_ret (by simp[results,results71,go_sem,m,l,q];rfl) rfl ?_;try simp only[A9o,A99,Bax] at*
  exact⟨⟨_,_,_⟩,rfl,Zr omz,rlA,glA⟩
theorem Ag1 (g P:Nat)(a:Stil.Dev)(w:World)(hr:Kq w g P)(b:P<=100000000000)(f:Small a):
  Calls prog 71 #[.pointer (some ⟨g,0,none⟩), .agg #[.int .i64 a.kind, .int .i64 a.n, .int .i64 a.p]] w λe w'=>∃d:Stil.Dev,e=.returned (.agg #[.int .i64 d.kind, .int .i64 d.n, .int .i64 d.p])/\Small d/\Kq w' g (P+3)/\w.grownBy w' (some g):=
 Anx g P a.kind a.n a.p w hr b f
theorem A4w (g P:Nat)(w:World)(hr:Kq w g P)(y:P<=10000000000):
  Calls prog 40 #[.pointer (some ⟨g,0,none⟩)] w λe w'=>∃d:Stil.Dev,e=.returned (.agg #[.int .i64 d.kind, .int .i64 d.n, .int .i64 d.p])/\Small d/\Kq w' g (P+4)/\w.grownBy w' (some g):=by
 have hg:=Sr hr;go_enter func40,ntmps40
 go_wp2_with (first | (go_at_call_of 17 (9:Nat);refine(Aa7 g _ _ _ [1,1,2,3,3,4,6,7,8] _ (E8 (E8 hr _) _) omz (Di (by simp[F6,go_sem])) spz yAh spz spz).mono ?_;rintro e f ⟨x,rfl,s,k,i⟩;simp only[A9o,A99,Bax] at s;have t:w.heap.size<f.heap.size:=A82 ltA i.size;obtain⟨l,m,q1,q,j,u⟩:f.cell? ⟨w.heap.size,0,none⟩=some (.int .i64 0)/\f.frozen? ⟨w.heap.size,0,none⟩=false/\f.cell? ⟨w.heap.size,1,none⟩=some (.int .i64 0)/\f.frozen? ⟨w.heap.size,1,none⟩=false/\f.cell? ⟨w.heap.size,2,none⟩=some (.int .i64 0)/\f.frozen? ⟨w.heap.size,2,none⟩=false:=⟨gcA i,gfA i,gcA i,gfA i,gcA i,gfA i⟩) | (go_at_call 41;refine(Om g _ x _ k omz omz omz).mono ?_;rintro e f ⟨d,rfl,hd,k,i⟩;have t:w.heap.size<f.heap.size:=A82 yAa i.size;have l:f.cell? ⟨w.heap.size,0,none⟩=some (.int .i64 0):=(by rw[Gu i yAa omz];first | assumption | (simp[go_sem, *];done));have m:f.frozen? ⟨w.heap.size,0,none⟩=false:=(by rw[Gv i yAa omz];first | assumption | (simp[go_sem, *];done));have q1:f.cell? ⟨w.heap.size,1,none⟩=some (.int .i64 0):=(by rw[Gu i yAa omz];first | assumption | (simp[go_sem, *];done));have q:f.frozen? ⟨w.heap.size,1,none⟩=false:=(by rw[Gv i yAa omz];first | assumption | (simp[go_sem, *];done));have j:f.cell? ⟨w.heap.size,2,none⟩=some (.int .i64 0):=(by rw[Gu i yAa omz];first | assumption | (simp[go_sem, *];done));have u:f.frozen? ⟨w.heap.size,2,none⟩=false:=(by rw[Gv i yAa omz];first | assumption | (simp[go_sem, *];done))))
 refine bodyPost_ret (v:=.agg #[.int .i64 d.kind, .int .i64 d.n, .int .i64 d.p]) (by simp[results,results40,go_sem,l,q1,j]) rfl ?_;exact⟨d,rfl,hd,rlA,glA⟩
theorem Ui (g P:Nat)(w:World)(hr:Kq w g P)(y:P<=10000000000):
  Calls prog 42 #[.pointer (some ⟨g,0,none⟩)] w λe w'=>∃d:Stil.Dev,e=.returned (.agg #[.int .i64 d.kind, .int .i64 d.n, .int .i64 d.p])/\Small d/\Kq w' g (P+4)/\w.grownBy w' (some g):=by
 have hg:=Sr hr;go_enter func42,ntmps42
 go_wp2_with (first | (go_at_call_of 17 (7:Nat);refine(Aa7 g _ _ _ [9,9,9,11,11,7,8] _ (E8 (E8 hr _) _) omz (Di (by simp[F6,go_sem])) spz yAh spz spz).mono ?_;rintro e f ⟨x,rfl,s,k,i⟩;simp only[A9o,A99,Bax] at s;have t:w.heap.size<f.heap.size:=A82 ltA i.size;obtain⟨l,m,q1,q,j,u⟩:f.cell? ⟨w.heap.size,0,none⟩=some (.int .i64 0)/\f.frozen? ⟨w.heap.size,0,none⟩=false/\f.cell? ⟨w.heap.size,1,none⟩=some (.int .i64 0)/\f.frozen? ⟨w.heap.size,1,none⟩=false/\f.cell? ⟨w.heap.size,2,none⟩=some (.int .i64 0)/\f.frozen? ⟨w.heap.size,2,none⟩=false:=⟨gcA i,gfA i,gcA i,gfA i,gcA i,gfA i⟩) | (go_at_call 41;refine(Om g _ x _ k omz omz omz).mono ?_;rintro e f ⟨d,rfl,hd,k,i⟩;have t:w.heap.size<f.heap.size:=A82 yAa i.size;have l:f.cell? ⟨w.heap.size,0,none⟩=some (.int .i64 0):=(by rw[Gu i yAa omz];first | assumption | (simp[go_sem, *];done));have m:f.frozen? ⟨w.heap.size,0,none⟩=false:=(by rw[Gv i yAa omz];first | assumption | (simp[go_sem, *];done));have q1:f.cell? ⟨w.heap.size,1,none⟩=some (.int .i64 0):=(by rw[Gu i yAa omz];first | assumption | (simp[go_sem, *];done));have q:f.frozen? ⟨w.heap.size,1,none⟩=false:=(by rw[Gv i yAa omz];first | assumption | (simp[go_sem, *];done));have j:f.cell? ⟨w.heap.size,2,none⟩=some (.int .i64 0):=(by rw[Gu i yAa omz];first | assumption | (simp[go_sem, *];done));have u:f.frozen? ⟨w.heap.size,2,none⟩=false:=(by rw[Gv i yAa omz];first | assumption | (simp[go_sem, *];done))))
 refine bodyPost_ret (v:=.agg #[.int .i64 d.kind, .int .i64 d.n, .int .i64 d.p]) (by simp[results,results42,go_sem,l,q1,j]) rfl ?_;exact⟨d,rfl,hd,rlA,glA⟩
theorem Xw (g P:Nat)(w:World)(hr:Kq w g P)(y:P<=10000000000):
  Calls prog 43 #[.pointer (some ⟨g,0,none⟩)] w λe w'=>∃d:Stil.Dev,e=.returned (.agg #[.int .i64 d.kind, .int .i64 d.n, .int .i64 d.p])/\Small d/\Kq w' g (P+4)/\w.grownBy w' (some g):=by
 have hg:=Sr hr;go_enter func43,ntmps43
 go_wp2_with (first | (go_at_call_of 17 (5:Nat);refine(Aa7 g _ _ _ [10,10,10,12,13] _ (E8 (E8 hr _) _) omz (Di (by simp[F6,go_sem])) spz yAh spz spz).mono ?_;rintro e f ⟨x,rfl,s,k,i⟩;simp only[A9o,A99,Bax] at s;have t:w.heap.size<f.heap.size:=A82 ltA i.size;obtain⟨l,m,q1,q,j,u⟩:f.cell? ⟨w.heap.size,0,none⟩=some (.int .i64 0)/\f.frozen? ⟨w.heap.size,0,none⟩=false/\f.cell? ⟨w.heap.size,1,none⟩=some (.int .i64 0)/\f.frozen? ⟨w.heap.size,1,none⟩=false/\f.cell? ⟨w.heap.size,2,none⟩=some (.int .i64 0)/\f.frozen? ⟨w.heap.size,2,none⟩=false:=⟨gcA i,gfA i,gcA i,gfA i,gcA i,gfA i⟩) | (go_at_call 41;refine(Om g _ x _ k omz omz omz).mono ?_;rintro e f ⟨d,rfl,hd,k,i⟩;have t:w.heap.size<f.heap.size:=A82 yAa i.size;have l:f.cell? ⟨w.heap.size,0,none⟩=some (.int .i64 0):=(by rw[Gu i yAa omz];first | assumption | (simp[go_sem, *];done));have m:f.frozen? ⟨w.heap.size,0,none⟩=false:=(by rw[Gv i yAa omz];first | assumption | (simp[go_sem, *];done));have q1:f.cell? ⟨w.heap.size,1,none⟩=some (.int .i64 0):=(by rw[Gu i yAa omz];first | assumption | (simp[go_sem, *];done));have q:f.frozen? ⟨w.heap.size,1,none⟩=false:=(by rw[Gv i yAa omz];first | assumption | (simp[go_sem, *];done));have j:f.cell? ⟨w.heap.size,2,none⟩=some (.int .i64 0):=(by rw[Gu i yAa omz];first | assumption | (simp[go_sem, *];done));have u:f.frozen? ⟨w.heap.size,2,none⟩=false:=(by rw[Gv i yAa omz];first | assumption | (simp[go_sem, *];done))))
 refine bodyPost_ret (v:=.agg #[.int .i64 d.kind, .int .i64 d.n, .int .i64 d.p]) (by simp[results,results43,go_sem,l,q1,j]) rfl ?_;exact⟨d,rfl,hd,rlA,glA⟩
theorem Aww (g P:Nat)(w:World)(hr:Kq w g P)(D:P<=10000000000):
  Calls prog 70 #[.pointer (some ⟨g,0,none⟩)] w λe w'=>∃d:Stil.Dev,e=.returned (.agg #[.int .i64 d.kind, .int .i64 d.n, .int .i64 d.p])/\Small d/\Kq w' g (P+8)/\w.grownBy w' (some g):=by
 have hg:=Sr hr;go_enter func70,ntmps70
 go_wp2_with (first | (go_at_call_of 13 (Value.int IntKind.i64 13);refine(Gm g _ _ _ raA omz omz omz).mono ?_;rintro e j ⟨x,rfl,B,z,y,i⟩;have t:w.heap.size<j.heap.size:=A82 ltA i.size;obtain⟨m,q,q1,s,l,u⟩:j.cell? ⟨w.heap.size,0,none⟩=some (.int .i64 0)/\j.frozen? ⟨w.heap.size,0,none⟩=false/\j.cell? ⟨w.heap.size,1,none⟩=some (.int .i64 0)/\j.frozen? ⟨w.heap.size,1,none⟩=false/\j.cell? ⟨w.heap.size,2,none⟩=some (.int .i64 0)/\j.frozen? ⟨w.heap.size,2,none⟩=false:=⟨gcA i,gfA i,gcA i,gfA i,gcA i,gfA i⟩) | (go_at_call 41;refine(Om g _ _ _ raA omz omz omz).mono ?_;rintro e k ⟨d,rfl,hd,y,i⟩;have t:w.heap.size<k.heap.size:=A82 ltA i.size;obtain⟨m,q,q1,s,l,u⟩:k.cell? ⟨w.heap.size,0,none⟩=some (.int .i64 0)/\k.frozen? ⟨w.heap.size,0,none⟩=false/\k.cell? ⟨w.heap.size,1,none⟩=some (.int .i64 0)/\k.frozen? ⟨w.heap.size,1,none⟩=false/\k.cell? ⟨w.heap.size,2,none⟩=some (.int .i64 0)/\k.frozen? ⟨w.heap.size,2,none⟩=false:=⟨gcA i,gfA i,gcA i,gfA i,gcA i,gfA i⟩) | (go_at_call_of 13 (Value.int IntKind.i64 20);refine(Gm g _ _ _ raA omz omz omz).mono ?_;rintro e j ⟨x,rfl,B,z,y,i⟩;have t:w.heap.size<j.heap.size:=A82 ltA i.size;have E:k.heap.size<j.heap.size:=A82 ltA i.size;obtain⟨m,q,q1,s,l,u,J,G,C,F,H,I⟩:j.cell? ⟨w.heap.size,0,none⟩=some (.int .i64 0)/\j.frozen? ⟨w.heap.size,0,none⟩=false/\j.cell? ⟨w.heap.size,1,none⟩=some (.int .i64 0)/\j.frozen? ⟨w.heap.size,1,none⟩=false/\j.cell? ⟨w.heap.size,2,none⟩=some (.int .i64 0)/\j.frozen? ⟨w.heap.size,2,none⟩=false/\j.cell? ⟨k.heap.size,0,none⟩=some (.int .i64 d.kind)/\j.frozen? ⟨k.heap.size,0,none⟩=false/\j.cell? ⟨k.heap.size,1,none⟩=some (.int .i64 d.n)/\j.frozen? ⟨k.heap.size,1,none⟩=false/\j.cell? ⟨k.heap.size,2,none⟩=some (.int .i64 d.p)/\j.frozen? ⟨k.heap.size,2,none⟩=false:=⟨gcA i,gfA i,gcA i,gfA i,gcA i,gfA i,gcA i,gfA i,gcA i,gfA i,gcA i,gfA i⟩) | (go_at_call 71;refine(Ag1 g _ d _ raA omz hd).mono ?_;rintro e j ⟨f,rfl,A,y,i⟩;have t:w.heap.size<j.heap.size:=A82 ltA i.size;obtain⟨m,q,q1,s,l,u⟩:j.cell? ⟨w.heap.size,0,none⟩=some (.int .i64 0)/\j.frozen? ⟨w.heap.size,0,none⟩=false/\j.cell? ⟨w.heap.size,1,none⟩=some (.int .i64 0)/\j.frozen? ⟨w.heap.size,1,none⟩=false/\j.cell? ⟨w.heap.size,2,none⟩=some (.int .i64 0)/\j.frozen? ⟨w.heap.size,2,none⟩=false:=⟨gcA i,gfA i,gcA i,gfA i,gcA i,gfA i⟩))
 ·refine bodyPost_ret (v:=.agg #[.int .i64 f.kind, .int .i64 f.n, .int .i64 f.p]) (by simp[results,results70,go_sem,m,q1,l]) rfl ?_
  exact⟨f,rfl,A,rlA,glA⟩
 ·refine bodyPost_ret (v:=.agg #[.int .i64 d.kind, .int .i64 d.n, .int .i64 d.p]) (by simp[results,results70,go_sem,m,q1,l]) rfl ?_
  exact⟨d,rfl,hd,rlA,glA⟩
end Go.Proofs.YtobbpffcggchmaaGreatDoor
