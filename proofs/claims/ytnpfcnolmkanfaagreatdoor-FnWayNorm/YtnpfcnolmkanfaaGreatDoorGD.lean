import Derived.Test.YtnpfcnolmkanfaaGreatDoorGT
import Derived.Test.YtnpfcnolmkanfaaGreatDoorI3
import Derived.Deep.RegionWith
set_option maxHeartbeats 4000000
set_option maxRecDepth 100000
namespace Go.Proofs.YtnpfcnolmkanfaaGreatDoor
open Tryz
open Stil
open Go.RowKit Go.Sort Go.BigFrame
variable {P c g o p:Nat}{W a w':World}{ob:Obj}{r:Option Nat}{v:Value}
def H5 (w:World)(g P:Nat):Prop:=∃(a:Option Addr) (len cap p:Nat),w.cell? ⟨g,0,none⟩=some (.slice a len cap)/\w.cell? ⟨g,1,none⟩=some (.int .i64 p)/\w.frozen? ⟨g,1,none⟩=false/\p<=P/\len<=2000/\
 ∀i,i<len->∃b o z,a=some ⟨b,o,none⟩/\b<g/\w.cell? ⟨b,o+i,none⟩=some (.int .u8 z)/\0<=z/\z<256
theorem Axk (w:World)(g o:Nat)(v:Value):w.grownBy (w.setCell ⟨g,o,none⟩ v) (some g):=by
 refine⟨rfl,rfl,rfl,spz,λk d b=>?_⟩;simp only[World.setCell,A76];rw[if_neg (λe=>b (by rw[e]))]
theorem Ang {w:World}{a:Option Addr}{len cap:Nat}(n:w.cell? ⟨g,0,none⟩=some (.slice a len cap))(m:w.cell? ⟨g,1,none⟩=some (.int .i64 p))(k:w.frozen? ⟨g,1,none⟩=false)(u:p<=P)(q:len<=2000)
  (l:∀i,i<len->∃b o z,a=some ⟨b,o,none⟩/\b<g/\w.cell? ⟨b,o+i,none⟩=some (.int .u8 z)/\0<=z/\z<256):
  H5 (w.setCell ⟨g,1,none⟩ (.int .i64 ((p:Int)+1))) g (P+1)/\w.grownBy (w.setCell ⟨g,1,none⟩ (.int .i64 ((p:Int)+1))) (some g):=by
 refine⟨⟨a,len,cap,p+1,?_,?_,?_,omz,q,λi hi=>?_⟩,Axk _ _ _ _⟩
 ·simp[go_sem,n]
 ·simp[go_sem,m]
 ·simp[go_sem,k]
 ·obtain⟨b,o,z,f,j,d,e,s⟩:=l i hi
  have x:¬b=g:=omz
  have t:¬g=b:=omz
  exact⟨b,o,z,f,j,by simp[go_sem,d],e,s⟩
theorem A4k (a b:Nat)(k:a<4611686018427387904)(j:b<4611686018427387904):∃m:Nat,bits .xor .i64 (a:Int) (b:Int)=(m:Int):=by
 have f:a % 2 ^ 64=a:=Nat.mod_eq_of_lt omz;have d:b % 2 ^ 64=b:=Nat.mod_eq_of_lt omz;have i:a ^^^ b<2 ^ 62:=Nat.xor_lt_two_pow (n:=62) omz omz;refine⟨a ^^^ b,?_⟩;have e:bits .xor .i64 (a:Int) (b:Int)=IntKind.i64.wrap ((a ^^^ b:Nat):Int):=by
  simp only[bits,BitVec.ofInt_natCast,BitVec.toNat_xor,BitVec.toNat_ofNat];rw[show IntKind.i64.bits=64 from rfl,f,d]
 rw[e,IntKind.wrap_i64];omega
theorem X0 {w:World}(h:H5 w g P)(n:Nat):H5 (w.drewN n) g P:=h
theorem grown_drewN {w:World}(h:w.grownBy w' (some g))(n:Nat):w.grownBy (w'.drewN n) (some g):=⟨h.os,h.tape,h.output,h.size,h.block⟩
theorem Ny (w:World)(r:Option Nat):w.grownBy w r:=⟨rfl,rfl,rfl,A57 _,λ_ _ _=>rfl⟩
theorem Aeq {b c:World}(h:a.grownBy b r)(k:b.grownBy c r):a.grownBy c r:=
 ⟨k.os.trans h.os,k.tape.trans h.tape,k.output.trans h.output,A6e h.size k.size,λj e d=>(k.block j (A51 e h.size) d).trans (h.block j e d)⟩
theorem grown_below {b:World}(h:Below a.heap.size a b)(r:Option Nat):a.grownBy b r:=⟨h.os,h.tape,h.output,h.size,λk d _=>h.block k d⟩
theorem Ew (g P:Nat)(n:Int)(w:World)(hr:H5 w g P)(Z:P<=1000000000000)(V:n<=1000000)(X:-1000000<=n):
  Calls prog 23 #[.pointer (some ⟨g,0,none⟩), .int .i64 n] w λe w'=>∃x:Int,e=.returned (.int .i64 x)/\0<=x/\(x<n\/x=0)/\H5 w' g (P+1)/\w.grownBy w' (some g):=by
 obtain⟨a,len,cap,p,l,A,k,u,j,d⟩:=hr;by_cases I:len=0
 ·subst I
  have f:=Ang l A k u j d;clear d;go_enter func23,ntmps23
  go_wp2
  all_goals go_ret
  all_goals exact⟨0,rfl,omz,omz,f⟩
 by_cases O:n<1
 ·have f:=Ang l A k u j d
  have R:((len:Int)==0)=false:=by rw[A64];omega
  have af:decide (n<1)=true:=by simpa using O
  clear d;go_enter func23,ntmps23
  go_wp2
  go_ret;exact⟨0,rfl,omz,omz,f⟩
 ·have R:((len:Int)==0)=false:=by rw[A64];omega
  have f:=Ang l A k u j d;by_cases J:p<len
  ·obtain⟨b,o,z,rfl,M,F,N,K⟩:=d p J
   have D:0<=z % n/\z % n<n:=⟨Int.emod_nonneg _ omz,Int.emod_lt_of_pos _ omz⟩
   clear d;go_enter func23,ntmps23
   go_wp2
   go_ret;exact⟨_,rfl,D.1,Or.inl D.2,f⟩
  ·obtain⟨b,o,z,rfl,M,F,N,K⟩:=d (p % len) (Nat.mod_lt _ omz)
   obtain⟨b',o',Q,B,_,H,aa,Y⟩:=d ((p*7+3) % len) (Nat.mod_lt _ omz);simp only[A65,Addr.mk.injEq,A8u] at B;obtain⟨rfl,rfl⟩:=B;clear d;obtain⟨q,i⟩:∃q,q=p % len:=⟨_,rfl⟩
   obtain⟨r,hr⟩:∃r,r=(p*7+3) % len:=⟨_,rfl⟩
   obtain⟨t,s⟩:∃t,t=p / len:=⟨_,rfl⟩
   have T:q<len:=by rw[i];exact Nat.mod_lt _ omz
   have U:r<len:=by rw[hr];exact Nat.mod_lt _ omz
   have S:t<=p:=by rw[s];exact Nat.div_le_self _ _
   have ac:(p:Int) % (len:Int)=q:=by rw[i];simp
   have ae:((p:Int)*7+3) % (len:Int)=r:=by rw[hr];simp
   have ab:(p:Int) / (len:Int)=t:=by rw[s];simp
   rw[<-i] at F;rw[<-hr] at H;clear i hr s;go_enter func23,ntmps23
   go_wp2
   go_quiet (fail)
   go_wp2
   go_ret;obtain⟨y,C⟩:∃y:Nat,z*131+Q*1117+(p:Int)*29+(t:Int)*53=(y:Int):=A7i omz;have L:y<4611686018427387904:=omz
   obtain⟨m,G⟩:=A4k y (y / 64) L omz;have E:((y:Int) / 64)=((y / 64:Nat):Int):=omz
   refine⟨_,rfl,?_,?_,X0 f.1 _,grown_drewN f.2 _⟩
   ·rw[C,E,G];exact Int.tmod_nonneg _ omz
   ·left;rw[C,E,G];exact Int.tmod_lt_of_pos _ omz
theorem Df {w:World}{b:Nat}(h:w.grownBy w' (some g))(d:b<w.heap.size)(f:b≠g):w'.cell? ⟨b,o,none⟩=w.cell? ⟨b,o,none⟩:=by
 unfold World.cell?;rw[h.block b d (by intro e;cases e;exact f rfl)]
theorem Gw {w:World}{b:Nat}(h:w.grownBy w' (some g))(d:b<w.heap.size)(f:b≠g):w'.frozen? ⟨b,o,none⟩=w.frozen? ⟨b,o,none⟩:=by
 unfold World.frozen?;rw[h.block b d (by intro e;cases e;exact f rfl)]
theorem D5 {w:World}(h:w.grownBy a r)(o:Obj):w.grownBy (a.alloc o) r:=Aeq h (grown_below (Aa a o) r)
theorem Apv {w:World}(h:w.grownBy a r)(n:Nat):w.grownBy (a.drewN n) r:=⟨h.os,h.tape,h.output,h.size,h.block⟩
theorem Axl {w:World}(h:w.grownBy a r):w.grownBy a.drew r:=⟨h.os,h.tape,h.output,h.size,h.block⟩
theorem Lt {w:World}{p:Addr}(e:w.heap.size<=p.block)(h:w.grownBy a r)(v:Value):w.grownBy (a.setCell p v) r:=
 ⟨h.os,h.tape,h.output,by simpa using h.size,λk b d=>by
  rw[<-h.block k b d];simp only[World.setCell,A76]
  rw[if_neg omz]⟩
theorem Dx {w b:World}(h:w.grownBy a r)(k:a.grownBy b r):w.grownBy b r:=Aeq h k
theorem glA {w:World}(h:w.grownBy W r:=by(repeat (first | with_reducible exact Ny _ _ | with_reducible assumption | with_reducible refine Lt (by first | exact A57 _ | (simp;done) | (simp;omega) | omega) ?_ _ | with_reducible refine D5 ?_ _ | with_reducible refine Apv ?_ _ | with_reducible refine Axl ?_ | with_reducible refine Dx ?_ (by with_reducible assumption)))):w.grownBy W r:=h
theorem Cb {w:World}(h:H5 w g P)(o:Obj):H5 (w.alloc o) g P:=by
 obtain⟨a,len,cap,p,e,y,l,t,A,m⟩:=h;have f:g<w.heap.size:=by
  unfold World.cell? at e;cases j:w.heap[g]? with
  | none=>simp[j] at e
  | some x=>exact(Array.getElem?_eq_some_iff.1 j).1
 have d:=Aa w o;refine⟨a,len,cap,p,by rw[d.cell (p:=⟨g,0,none⟩) f];exact e,by rw[d.cell (p:=⟨g,1,none⟩) f];exact y,by rw[d.frozen (p:=⟨g,1,none⟩) f];exact l,t,A,λi hi=>?_⟩;obtain⟨b,q,z,k,u,n,s,B⟩:=m i hi;exact⟨b,q,z,k,u,by rw[d.cell (p:=⟨b,q+i,none⟩) (by show b<_;omega)];exact n,s,B⟩
theorem Ug {w:World}(h:H5 w g P):g<w.heap.size:=by
 obtain⟨a,len,cap,p,d,_⟩:=h;unfold World.cell? at d;cases b:w.heap[g]? with
 | none=>simp[b] at d
 | some x=>exact(Array.getElem?_eq_some_iff.1 b).1
theorem Fg {w:World}{Q:Nat}(h:H5 w g P)(j:P<=Q):H5 w g Q:=by
 obtain⟨a,len,cap,p,d,e,b,i,f⟩:=h;exact⟨a,len,cap,p,d,e,b,omz,f⟩
theorem Jp {w:World}{b:Nat}(h:H5 w g P)(x:g<b)(v:Value):H5 (w.setCell ⟨b,o,none⟩ v) g P:=by
 obtain⟨a,len,cap,p,k,s,j,m,u,d⟩:=h;have y:¬g=b:=omz
 have C:¬b=g:=omz
 refine⟨a,len,cap,p,by simp[go_sem,k],by simp[go_sem,s],by simp[go_sem,j],m,u,λi hi=>?_⟩;obtain⟨c,q,z,f,n,l,e,t⟩:=d i hi;have B:¬c=b:=omz
 have A:¬b=c:=omz
 exact⟨c,q,z,f,n,by simp[go_sem,l],e,t⟩
theorem Fv {b:Nat}(h:c≠b):(W.setCell ⟨b,o,none⟩ v).cell? ⟨c,p,none⟩=W.cell? ⟨c,p,none⟩:=by
 have d:¬b=c:=λe=>h e.symm
 simp[go_sem]
theorem Ht {b:Nat}(h:p≠o):(W.setCell ⟨b,o,none⟩ v).cell? ⟨b,p,none⟩=W.cell? ⟨b,p,none⟩:=by
 have d:¬o=p:=λe=>h e.symm
 simp[go_sem]
theorem Nl {b:Nat}{u:Value}(h:W.cell? ⟨b,o,none⟩=some u):(W.setCell ⟨b,o,none⟩ v).cell? ⟨b,o,none⟩=some v:=by
 simp[go_sem,h]
theorem Ll {b:Nat}:(W.setCell ⟨b,o,none⟩ v).frozen? ⟨c,p,none⟩=W.frozen? ⟨c,p,none⟩:=by
 simp[go_sem]
theorem Jy (h:c<W.heap.size):(W.alloc ob).cell? ⟨c,p,none⟩=W.cell? ⟨c,p,none⟩:=(Aa W ob).cell (p:=⟨c,p,none⟩) h
theorem Iw (h:c<W.heap.size):(W.alloc ob).frozen? ⟨c,p,none⟩=W.frozen? ⟨c,p,none⟩:=(Aa W ob).frozen (p:=⟨c,p,none⟩) h
theorem Adz {w:World}(h:H5 w g P):H5 w.drew g P:=h
theorem rlA {w:World}(h:H5 w g P:=by(repeat (first | with_reducible assumption | with_reducible refine Jp ?_ (by first | omega | (simp;omega)) _ | with_reducible refine Cb ?_ _ | with_reducible refine X0 ?_ _ | with_reducible refine Adz ?_ | exact Fg (by with_reducible assumption) (by omega)))):H5 w g P:=h
theorem Uu {a:Addr}:W.drew.cell? a=W.cell? a:=rfl
theorem cfA {a:Addr}{o:Option Value}(h:W.cell? a=o:=by(repeat (first | with_reducible assumption | with_reducible refine Uu.trans ?_ | with_reducible refine(Fv (by omega)).trans ?_ | with_reducible refine(Ht (by omega)).trans ?_ | with_reducible refine(Jy ltA).trans ?_ | with_reducible apply Nl | (simp[go_sem];done)))):W.cell? a=o:=h
theorem O0 {a:Addr}:W.drew.frozen? a=W.frozen? a:=rfl
theorem ffA {a:Addr}{o:Bool}(h:W.frozen? a=o:=by(repeat (first | with_reducible assumption | with_reducible refine O0.trans ?_ | with_reducible refine Ll.trans ?_ | with_reducible refine(Iw ltA).trans ?_ | (simp[go_sem];done)))):W.frozen? a=o:=h
theorem gcA {w:World}{b:Nat}{v:Option Value}(hg:w.grownBy W (some g))(h1:b<w.heap.size:=by first | with_reducible assumption | (simp;done) | (simp;omega))(h2:b≠g:=by omega)(h3:w.cell? ⟨b,o,none⟩=v:=by(repeat (first | with_reducible assumption | with_reducible refine Uu.trans ?_ | with_reducible refine(Fv (by omega)).trans ?_ | with_reducible refine(Ht (by omega)).trans ?_ | with_reducible refine(Jy ltA).trans ?_ | with_reducible apply Nl | (simp[go_sem];done)))):W.cell? ⟨b,o,none⟩=v:=(Df hg h1 h2).trans h3
theorem gfA {w:World}{b:Nat}{v:Bool}(hg:w.grownBy W (some g))(h1:b<w.heap.size:=by first | with_reducible assumption | (simp;done) | (simp;omega))(h2:b≠g:=by omega)(h3:w.frozen? ⟨b,o,none⟩=v:=by(repeat (first | with_reducible assumption | with_reducible refine O0.trans ?_ | with_reducible refine Ll.trans ?_ | with_reducible refine(Iw ltA).trans ?_ | (simp[go_sem];done)))):W.frozen? ⟨b,o,none⟩=v:=(Gw hg h1 h2).trans h3
theorem A2r {w:World}{b:Nat}(d:g<b)(h:H5 w g P):H5 (w.setCell ⟨b,o,none⟩ v) g P:=Jp h d v
theorem raA {w:World}(h:H5 w g P:=by(repeat (first | with_reducible assumption | with_reducible apply Cb | with_reducible apply X0 | with_reducible apply Adz | (with_reducible apply A2r;first | omega | (simp;omega))))):H5 w g P:=h
theorem Aad (g P b cap:Nat)(l:List Int)(w:World)(hr:H5 w g P)(t:P<=1000000000000)(d:Afi w b 0 l)(k:b<w.heap.size)(q:b≠g)(y:1<=l.length)(z:l.length<=1000):
  Calls prog 41 #[.pointer (some ⟨g,0,none⟩), .slice (some ⟨b,0,none⟩) l.length cap] w λe w'=>∃x:Int,e=.returned (.int .i64 x)/\x∈l/\H5 w' g (P+1)/\w.grownBy w' (some g):=by
 have m:Hid (Afi w b 0 l):=d;clear d;go_enter func41,ntmps41
 go_wp2_with (go_at_call 23;refine(Ew g P _ _ hr t omz omz).mono ?_;rintro e s ⟨x,rfl,u,A,n,f⟩;obtain⟨j,rfl⟩:=A7i u;have i:j<l.length:=omz;have B:s.cell? ⟨b,j,none⟩=some (.int .i64 l[j]):=(by rw[Df f k q];have:=m j i;rwa [A6b] at this))
 go_ret;exact⟨_,rfl,A59 i,n,f⟩
def Small (d:Stil.Dev):Prop:=(-10000000000<=d.kind/\d.kind<=10000000000)/\(-10000000000<=d.n/\d.n<=10000000000)/\(-10000000000<=d.p/\d.p<=10000000000)
theorem Small.fits {d:Stil.Dev}(h:Small d):d.fits:=by
 obtain⟨⟨a,b⟩,⟨c,d⟩,⟨e,f⟩⟩:=h;exact⟨⟨omz,omz⟩,⟨omz,omz⟩,⟨omz,omz⟩⟩
theorem Aab {k n p:Int}(h:-10000000000<=k/\k<=10000000000/\-10000000000<=n/\n<=10000000000/\-10000000000<=p/\p<=10000000000):Small ⟨k,n,p⟩:=⟨⟨h.1,h.2.1⟩,⟨h.2.2.1,h.2.2.2.1⟩,⟨h.2.2.2.2.1,h.2.2.2.2.2⟩⟩
theorem Ahe (k:Int):0<=Ih k/\Ih k<=64:=by
 unfold Ih;split
 ·omega
 ·split
  ·omega
  ·split
   ·omega
   ·split<;>omega
theorem Ob (g P:Nat)(k:Int)(w:World)(hr:H5 w g P)(K:P<=100000000000)(I:-1000000<=k)(L:k<=1000000):
  Calls prog 72 #[.pointer (some ⟨g,0,none⟩), .int .i64 k] w λe w'=>∃d:Stil.Dev,e=.returned (.agg #[.int .i64 d.kind, .int .i64 d.n, .int .i64 d.p])/\Small d/\H5 w' g (P+3)/\w.grownBy w' (some g):=by
 have hg:=Ug hr;have G:¬w.heap.size=g:=omz
 have E:=Ahe k;by_cases A:k=11
 ·subst A
  go_enter func72,ntmps72
  go_wp2_with (go_at_call_of 41 (12:Nat);refine(Aad g _ _ _ [0,1,2,3,5,-1,-7,10,100,32767,-32768,1000] _ (Cb (Cb hr _) _) omz (C9 (by simp[Fj,go_sem])) spz yAh spz spz).mono ?_;rintro e i ⟨x,rfl,D,m,f⟩;have t:w.heap.size<i.heap.size:=A51 ltA f.size;obtain⟨l,q,q1,u,j,s⟩:i.cell? ⟨w.heap.size,0,none⟩=some (.int .i64 0)/\i.frozen? ⟨w.heap.size,0,none⟩=false/\i.cell? ⟨w.heap.size,1,none⟩=some (.int .i64 0)/\i.frozen? ⟨w.heap.size,1,none⟩=false/\i.cell? ⟨w.heap.size,2,none⟩=some (.int .i64 0)/\i.frozen? ⟨w.heap.size,2,none⟩=false:=⟨gcA f,gfA f,gcA f,gfA f,gcA f,gfA f⟩)
  all_goals
   refine bodyPost_ret (by simp[results,results72,go_sem,l,q1,j];rfl) rfl ?_;try simp only[A6n,A68,A7u] at*
   exact⟨⟨_,_,_⟩,rfl,Aab omz,rlA,glA⟩
 ·by_cases B:k=12
  ·subst B
   go_enter func72,ntmps72
   go_wp2_with (first | (go_at_call_of 41 (11:Nat);refine(Aad g _ _ _ [0,1,5,-5,25,-15,999999999,-999999999,3,1001,7] _ (Cb (Cb hr _) _) omz (C9 (by simp[Fj,go_sem])) spz yAh spz spz).mono ?_;rintro e i ⟨x,rfl,D,m,f⟩;have t:w.heap.size<i.heap.size:=A51 ltA f.size;obtain⟨l,q,q1,u,j,s⟩:i.cell? ⟨w.heap.size,0,none⟩=some (.int .i64 0)/\i.frozen? ⟨w.heap.size,0,none⟩=false/\i.cell? ⟨w.heap.size,1,none⟩=some (.int .i64 0)/\i.frozen? ⟨w.heap.size,1,none⟩=false/\i.cell? ⟨w.heap.size,2,none⟩=some (.int .i64 0)/\i.frozen? ⟨w.heap.size,2,none⟩=false:=⟨gcA f,gfA f,gcA f,gfA f,gcA f,gfA f⟩) | (go_at_call_of 23 (Value.int IntKind.i64 6);refine(Ew g _ _ _ (m) omz omz omz).mono ?_;rintro e i ⟨x,rfl,z,y,m,f⟩;have t:w.heap.size<i.heap.size:=A51 ltA f.size;obtain⟨l,q,q1,u,j,s⟩:i.cell? ⟨w.heap.size,0,none⟩=some (.int .i64 0)/\i.frozen? ⟨w.heap.size,0,none⟩=false/\i.cell? ⟨w.heap.size,1,none⟩=some (.int .i64 0)/\i.frozen? ⟨w.heap.size,1,none⟩=false/\i.cell? ⟨w.heap.size,2,none⟩=some (.int .i64 0)/\i.frozen? ⟨w.heap.size,2,none⟩=false:=⟨gcA f,gfA f,gcA f,gfA f,gcA f,gfA f⟩))
   all_goals
    refine bodyPost_ret (by simp[results,results72,go_sem,l,q1,j];rfl) rfl ?_;try simp only[A6n,A68,A7u] at*
    exact⟨⟨_,_,_⟩,rfl,Aab omz,rlA,glA⟩
  ·by_cases C:k=13
   ·subst C
    go_enter func72,ntmps72
    go_wp2_with ((go_at_call_of 23 (Value.int IntKind.i64 4);refine(Ew g _ _ _ (Cb hr _) omz omz omz).mono ?_;rintro e i ⟨x,rfl,z,y,m,f⟩;have t:w.heap.size<i.heap.size:=A51 ltA f.size;obtain⟨l,q,q1,u,j,s⟩:i.cell? ⟨w.heap.size,0,none⟩=some (.int .i64 0)/\i.frozen? ⟨w.heap.size,0,none⟩=false/\i.cell? ⟨w.heap.size,1,none⟩=some (.int .i64 0)/\i.frozen? ⟨w.heap.size,1,none⟩=false/\i.cell? ⟨w.heap.size,2,none⟩=some (.int .i64 0)/\i.frozen? ⟨w.heap.size,2,none⟩=false:=⟨gcA f,gfA f,gcA f,gfA f,gcA f,gfA f⟩))
    all_goals
     refine bodyPost_ret (by simp[results,results72,go_sem,l,q1,j];rfl) rfl ?_;try simp only[A6n,A68,A7u] at*
     exact⟨⟨_,_,_⟩,rfl,Aab omz,rlA,glA⟩
   ·have M:(k==11)=false:=by simpa using A
    have J:(k==12)=false:=by simpa using B
    have H:(k==13)=false:=by simpa using C
    go_enter func72,ntmps72
    go_wp2_with (first | (go_at_call_of 23 (Value.int IntKind.i64 4);refine(Ew g _ _ _ (Cb hr _) omz omz omz).mono ?_;rintro e i ⟨x,rfl,z,y,m,f⟩;have t:w.heap.size<i.heap.size:=A51 ltA f.size;obtain⟨l,q,q1,u,j,s⟩:i.cell? ⟨w.heap.size,0,none⟩=some (.int .i64 0)/\i.frozen? ⟨w.heap.size,0,none⟩=false/\i.cell? ⟨w.heap.size,1,none⟩=some (.int .i64 0)/\i.frozen? ⟨w.heap.size,1,none⟩=false/\i.cell? ⟨w.heap.size,2,none⟩=some (.int .i64 0)/\i.frozen? ⟨w.heap.size,2,none⟩=false:=⟨gcA f,gfA f,gcA f,gfA f,gcA f,gfA f⟩) | (go_at_call_of 23 (Value.int IntKind.i64 6);refine(Ew g _ _ _ (m) omz omz omz).mono ?_;rintro e i ⟨x,rfl,z,y,m,f⟩;have t:w.heap.size<i.heap.size:=A51 ltA f.size;obtain⟨l,q,q1,u,j,s⟩:i.cell? ⟨w.heap.size,0,none⟩=some (.int .i64 0)/\i.frozen? ⟨w.heap.size,0,none⟩=false/\i.cell? ⟨w.heap.size,1,none⟩=some (.int .i64 0)/\i.frozen? ⟨w.heap.size,1,none⟩=false/\i.cell? ⟨w.heap.size,2,none⟩=some (.int .i64 0)/\i.frozen? ⟨w.heap.size,2,none⟩=false:=⟨gcA f,gfA f,gcA f,gfA f,gcA f,gfA f⟩) | (go_at_call_of 23 (Value.int IntKind.i64 (Ih k));refine(Ew g _ _ _ (m) omz omz omz).mono ?_;rintro e i ⟨x,rfl,z,y,m,f⟩;have t:w.heap.size<i.heap.size:=A51 ltA f.size;obtain⟨l,q,q1,u,j,s⟩:i.cell? ⟨w.heap.size,0,none⟩=some (.int .i64 0)/\i.frozen? ⟨w.heap.size,0,none⟩=false/\i.cell? ⟨w.heap.size,1,none⟩=some (.int .i64 0)/\i.frozen? ⟨w.heap.size,1,none⟩=false/\i.cell? ⟨w.heap.size,2,none⟩=some (.int .i64 0)/\i.frozen? ⟨w.heap.size,2,none⟩=false:=⟨gcA f,gfA f,gcA f,gfA f,gcA f,gfA f⟩) | (go_at_call 99;refine(Wx _ _).mono ?_;rintro e F ⟨rfl,rfl⟩))
    all_goals
     refine bodyPost_ret (by simp[results,results72,go_sem,l,q1,j];rfl) rfl ?_;try simp only[A6n,A68,A7u] at*
     exact⟨⟨_,_,_⟩,rfl,Aab omz,rlA,glA⟩
theorem Am6 (g P:Nat)(k n p:Int)(w:World)(hr:H5 w g P)(V:P<=100000000000)(K:Small ⟨k,n,p⟩):
  Calls prog 101 #[.pointer (some ⟨g,0,none⟩), .agg #[.int .i64 k, .int .i64 n, .int .i64 p]] w λe w'=>∃d:Stil.Dev,e=.returned (.agg #[.int .i64 d.kind, .int .i64 d.n, .int .i64 d.p])/\Small d/\H5 w' g (P+3)/\w.grownBy w' (some g):=by
 have hg:=Ug hr;have J:=Ahe k;obtain⟨⟨T,S⟩,⟨L,O⟩,⟨M,R⟩⟩:=K;simp only at T S L O M R;obtain⟨z,u⟩:∃z,z=Ih k:=⟨_,rfl⟩
 rw[<-u] at J;have Q:Hid (Ih k=z):=u.symm;clear u;go_enter func101,ntmps101
 go_wp2_with (first | (go_at_call_of 23 (Value.int IntKind.i64 6);refine(Ew g _ _ _ (Cb (Cb hr _) _) omz omz omz).mono ?_;rintro e i ⟨x,rfl,N,I,j,f⟩;have F:w.heap.size<i.heap.size:=A51 ltA f.size;have A:w.heap.size+1<i.heap.size:=A51 ltA f.size;obtain⟨E,s,q1,G,y,B,m,C,q,D,l,t⟩:i.cell? ⟨w.heap.size,0,none⟩=some (.int .i64 k)/\i.frozen? ⟨w.heap.size,0,none⟩=false/\i.cell? ⟨w.heap.size,1,none⟩=some (.int .i64 n)/\i.frozen? ⟨w.heap.size,1,none⟩=false/\i.cell? ⟨w.heap.size,2,none⟩=some (.int .i64 p)/\i.frozen? ⟨w.heap.size,2,none⟩=false/\i.cell? ⟨w.heap.size+1,0,none⟩=some (.int .i64 0)/\i.frozen? ⟨w.heap.size+1,0,none⟩=false/\i.cell? ⟨w.heap.size+1,1,none⟩=some (.int .i64 0)/\i.frozen? ⟨w.heap.size+1,1,none⟩=false/\i.cell? ⟨w.heap.size+1,2,none⟩=some (.int .i64 0)/\i.frozen? ⟨w.heap.size+1,2,none⟩=false:=⟨gcA f,gfA f,gcA f,gfA f,gcA f,gfA f,gcA f,gfA f,gcA f,gfA f,gcA f,gfA f⟩) | (go_at_call_of 23 (Value.int IntKind.i64 16);refine(Ew g _ _ _ (j) omz omz omz).mono ?_;rintro e i ⟨x,rfl,N,I,j,f⟩;have F:w.heap.size<i.heap.size:=A51 ltA f.size;have A:w.heap.size+1<i.heap.size:=A51 ltA f.size;obtain⟨E,s,q1,G,y,B,m,C,q,D,l,t⟩:i.cell? ⟨w.heap.size,0,none⟩=some (.int .i64 k)/\i.frozen? ⟨w.heap.size,0,none⟩=false/\i.cell? ⟨w.heap.size,1,none⟩=some (.int .i64 n)/\i.frozen? ⟨w.heap.size,1,none⟩=false/\i.cell? ⟨w.heap.size,2,none⟩=some (.int .i64 p)/\i.frozen? ⟨w.heap.size,2,none⟩=false/\i.cell? ⟨w.heap.size+1,0,none⟩=some (.int .i64 0)/\i.frozen? ⟨w.heap.size+1,0,none⟩=false/\i.cell? ⟨w.heap.size+1,1,none⟩=some (.int .i64 0)/\i.frozen? ⟨w.heap.size+1,1,none⟩=false/\i.cell? ⟨w.heap.size+1,2,none⟩=some (.int .i64 0)/\i.frozen? ⟨w.heap.size+1,2,none⟩=false:=⟨gcA f,gfA f,gcA f,gfA f,gcA f,gfA f,gcA f,gfA f,gcA f,gfA f,gcA f,gfA f⟩) | (go_at_call_of 41 (16:Nat);refine(Aad g _ _ _ [-1,4,5,15,16,31,32,63,64,255,32768,-32769,1000000000,-1000000000,20,10] _ (Cb j _) omz (C9 (by simp[Fj,go_sem])) spz yAh spz spz).mono ?_;rintro e i ⟨x,rfl,H,j,f⟩;have F:w.heap.size<i.heap.size:=A51 ltA f.size;have A:w.heap.size+1<i.heap.size:=A51 ltA f.size;obtain⟨E,s,q1,G,y,B,m,C,q,D,l,t⟩:i.cell? ⟨w.heap.size,0,none⟩=some (.int .i64 k)/\i.frozen? ⟨w.heap.size,0,none⟩=false/\i.cell? ⟨w.heap.size,1,none⟩=some (.int .i64 n)/\i.frozen? ⟨w.heap.size,1,none⟩=false/\i.cell? ⟨w.heap.size,2,none⟩=some (.int .i64 p)/\i.frozen? ⟨w.heap.size,2,none⟩=false/\i.cell? ⟨w.heap.size+1,0,none⟩=some (.int .i64 0)/\i.frozen? ⟨w.heap.size+1,0,none⟩=false/\i.cell? ⟨w.heap.size+1,1,none⟩=some (.int .i64 0)/\i.frozen? ⟨w.heap.size+1,1,none⟩=false/\i.cell? ⟨w.heap.size+1,2,none⟩=some (.int .i64 0)/\i.frozen? ⟨w.heap.size+1,2,none⟩=false:=⟨gcA f,gfA f,gcA f,gfA f,gcA f,gfA f,gcA f,gfA f,gcA f,gfA f,gcA f,gfA f⟩) | (go_at_call_of 41 (5:Nat);refine(Aad g _ _ _ [-1,0,1,6,7] _ (Cb j _) omz (C9 (by simp[Fj,go_sem])) spz yAh spz spz).mono ?_;rintro e i ⟨x,rfl,H,j,f⟩;have F:w.heap.size<i.heap.size:=A51 ltA f.size;have A:w.heap.size+1<i.heap.size:=A51 ltA f.size;obtain⟨E,s,q1,G,y,B,m,C,q,D,l,t⟩:i.cell? ⟨w.heap.size,0,none⟩=some (.int .i64 k)/\i.frozen? ⟨w.heap.size,0,none⟩=false/\i.cell? ⟨w.heap.size,1,none⟩=some (.int .i64 n)/\i.frozen? ⟨w.heap.size,1,none⟩=false/\i.cell? ⟨w.heap.size,2,none⟩=some (.int .i64 p)/\i.frozen? ⟨w.heap.size,2,none⟩=false/\i.cell? ⟨w.heap.size+1,0,none⟩=some (.int .i64 0)/\i.frozen? ⟨w.heap.size+1,0,none⟩=false/\i.cell? ⟨w.heap.size+1,1,none⟩=some (.int .i64 0)/\i.frozen? ⟨w.heap.size+1,1,none⟩=false/\i.cell? ⟨w.heap.size+1,2,none⟩=some (.int .i64 0)/\i.frozen? ⟨w.heap.size+1,2,none⟩=false:=⟨gcA f,gfA f,gcA f,gfA f,gcA f,gfA f,gcA f,gfA f,gcA f,gfA f,gcA f,gfA f⟩) | (go_at_call 99;refine(Wx _ _).mono ?_;rw[Q.out];rintro e U ⟨rfl,rfl⟩))
 all_goals
  refine bodyPost_ret (by simp[results,results101,go_sem,m,q,l];rfl) rfl ?_;try simp only[A6n,A68,A7u] at*
  exact⟨⟨_,_,_⟩,rfl,Aab omz,rlA,glA⟩
theorem Agm (g P:Nat)(a:Stil.Dev)(w:World)(hr:H5 w g P)(b:P<=100000000000)(f:Small a):
  Calls prog 101 #[.pointer (some ⟨g,0,none⟩), .agg #[.int .i64 a.kind, .int .i64 a.n, .int .i64 a.p]] w λe w'=>∃d:Stil.Dev,e=.returned (.agg #[.int .i64 d.kind, .int .i64 d.n, .int .i64 d.p])/\Small d/\H5 w' g (P+3)/\w.grownBy w' (some g):=
 Am6 g P a.kind a.n a.p w hr b f
theorem A2m (g P:Nat)(w:World)(hr:H5 w g P)(y:P<=10000000000):
  Calls prog 76 #[.pointer (some ⟨g,0,none⟩)] w λe w'=>∃d:Stil.Dev,e=.returned (.agg #[.int .i64 d.kind, .int .i64 d.n, .int .i64 d.p])/\Small d/\H5 w' g (P+4)/\w.grownBy w' (some g):=by
 have hg:=Ug hr;go_enter func76,ntmps76
 go_wp2_with (first | (go_at_call_of 41 (9:Nat);refine(Aad g _ _ _ [1,1,2,3,3,4,6,7,8] _ (Cb (Cb hr _) _) omz (C9 (by simp[Fj,go_sem])) spz yAh spz spz).mono ?_;rintro e f ⟨x,rfl,m,k,i⟩;simp only[A6n,A68,A7u] at m;have s:w.heap.size<f.heap.size:=A51 ltA i.size;obtain⟨j,q,q1,u,l,t⟩:f.cell? ⟨w.heap.size,0,none⟩=some (.int .i64 0)/\f.frozen? ⟨w.heap.size,0,none⟩=false/\f.cell? ⟨w.heap.size,1,none⟩=some (.int .i64 0)/\f.frozen? ⟨w.heap.size,1,none⟩=false/\f.cell? ⟨w.heap.size,2,none⟩=some (.int .i64 0)/\f.frozen? ⟨w.heap.size,2,none⟩=false:=⟨gcA i,gfA i,gcA i,gfA i,gcA i,gfA i⟩) | (go_at_call 72;refine(Ob g _ x _ k omz omz omz).mono ?_;rintro e f ⟨d,rfl,hd,k,i⟩;have s:w.heap.size<f.heap.size:=A51 yAa i.size;have j:f.cell? ⟨w.heap.size,0,none⟩=some (.int .i64 0):=(by rw[Df i yAa omz];first | assumption | (simp[go_sem, *];done));have q:f.frozen? ⟨w.heap.size,0,none⟩=false:=(by rw[Gw i yAa omz];first | assumption | (simp[go_sem, *];done));have q1:f.cell? ⟨w.heap.size,1,none⟩=some (.int .i64 0):=(by rw[Df i yAa omz];first | assumption | (simp[go_sem, *];done));have u:f.frozen? ⟨w.heap.size,1,none⟩=false:=(by rw[Gw i yAa omz];first | assumption | (simp[go_sem, *];done));have l:f.cell? ⟨w.heap.size,2,none⟩=some (.int .i64 0):=(by rw[Df i yAa omz];first | assumption | (simp[go_sem, *];done));have t:f.frozen? ⟨w.heap.size,2,none⟩=false:=(by rw[Gw i yAa omz];first | assumption | (simp[go_sem, *];done))))
 refine bodyPost_ret (v:=.agg #[.int .i64 d.kind, .int .i64 d.n, .int .i64 d.p]) (by simp[results,results76,go_sem,j,q1,l]) rfl ?_;exact⟨d,rfl,hd,rlA,glA⟩
theorem Ue (g P:Nat)(w:World)(hr:H5 w g P)(y:P<=10000000000):
  Calls prog 73 #[.pointer (some ⟨g,0,none⟩)] w λe w'=>∃d:Stil.Dev,e=.returned (.agg #[.int .i64 d.kind, .int .i64 d.n, .int .i64 d.p])/\Small d/\H5 w' g (P+4)/\w.grownBy w' (some g):=by
 have hg:=Ug hr;go_enter func73,ntmps73
 go_wp2_with (first | (go_at_call_of 41 (7:Nat);refine(Aad g _ _ _ [9,9,9,11,11,7,8] _ (Cb (Cb hr _) _) omz (C9 (by simp[Fj,go_sem])) spz yAh spz spz).mono ?_;rintro e f ⟨x,rfl,m,k,i⟩;simp only[A6n,A68,A7u] at m;have s:w.heap.size<f.heap.size:=A51 ltA i.size;obtain⟨j,q,q1,u,l,t⟩:f.cell? ⟨w.heap.size,0,none⟩=some (.int .i64 0)/\f.frozen? ⟨w.heap.size,0,none⟩=false/\f.cell? ⟨w.heap.size,1,none⟩=some (.int .i64 0)/\f.frozen? ⟨w.heap.size,1,none⟩=false/\f.cell? ⟨w.heap.size,2,none⟩=some (.int .i64 0)/\f.frozen? ⟨w.heap.size,2,none⟩=false:=⟨gcA i,gfA i,gcA i,gfA i,gcA i,gfA i⟩) | (go_at_call 72;refine(Ob g _ x _ k omz omz omz).mono ?_;rintro e f ⟨d,rfl,hd,k,i⟩;have s:w.heap.size<f.heap.size:=A51 yAa i.size;have j:f.cell? ⟨w.heap.size,0,none⟩=some (.int .i64 0):=(by rw[Df i yAa omz];first | assumption | (simp[go_sem, *];done));have q:f.frozen? ⟨w.heap.size,0,none⟩=false:=(by rw[Gw i yAa omz];first | assumption | (simp[go_sem, *];done));have q1:f.cell? ⟨w.heap.size,1,none⟩=some (.int .i64 0):=(by rw[Df i yAa omz];first | assumption | (simp[go_sem, *];done));have u:f.frozen? ⟨w.heap.size,1,none⟩=false:=(by rw[Gw i yAa omz];first | assumption | (simp[go_sem, *];done));have l:f.cell? ⟨w.heap.size,2,none⟩=some (.int .i64 0):=(by rw[Df i yAa omz];first | assumption | (simp[go_sem, *];done));have t:f.frozen? ⟨w.heap.size,2,none⟩=false:=(by rw[Gw i yAa omz];first | assumption | (simp[go_sem, *];done))))
 refine bodyPost_ret (v:=.agg #[.int .i64 d.kind, .int .i64 d.n, .int .i64 d.p]) (by simp[results,results73,go_sem,j,q1,l]) rfl ?_;exact⟨d,rfl,hd,rlA,glA⟩
theorem Xy (g P:Nat)(w:World)(hr:H5 w g P)(y:P<=10000000000):
  Calls prog 74 #[.pointer (some ⟨g,0,none⟩)] w λe w'=>∃d:Stil.Dev,e=.returned (.agg #[.int .i64 d.kind, .int .i64 d.n, .int .i64 d.p])/\Small d/\H5 w' g (P+4)/\w.grownBy w' (some g):=by
 have hg:=Ug hr;go_enter func74,ntmps74
 go_wp2_with (first | (go_at_call_of 41 (5:Nat);refine(Aad g _ _ _ [10,10,10,12,13] _ (Cb (Cb hr _) _) omz (C9 (by simp[Fj,go_sem])) spz yAh spz spz).mono ?_;rintro e f ⟨x,rfl,m,k,i⟩;simp only[A6n,A68,A7u] at m;have s:w.heap.size<f.heap.size:=A51 ltA i.size;obtain⟨j,q,q1,u,l,t⟩:f.cell? ⟨w.heap.size,0,none⟩=some (.int .i64 0)/\f.frozen? ⟨w.heap.size,0,none⟩=false/\f.cell? ⟨w.heap.size,1,none⟩=some (.int .i64 0)/\f.frozen? ⟨w.heap.size,1,none⟩=false/\f.cell? ⟨w.heap.size,2,none⟩=some (.int .i64 0)/\f.frozen? ⟨w.heap.size,2,none⟩=false:=⟨gcA i,gfA i,gcA i,gfA i,gcA i,gfA i⟩) | (go_at_call 72;refine(Ob g _ x _ k omz omz omz).mono ?_;rintro e f ⟨d,rfl,hd,k,i⟩;have s:w.heap.size<f.heap.size:=A51 yAa i.size;have j:f.cell? ⟨w.heap.size,0,none⟩=some (.int .i64 0):=(by rw[Df i yAa omz];first | assumption | (simp[go_sem, *];done));have q:f.frozen? ⟨w.heap.size,0,none⟩=false:=(by rw[Gw i yAa omz];first | assumption | (simp[go_sem, *];done));have q1:f.cell? ⟨w.heap.size,1,none⟩=some (.int .i64 0):=(by rw[Df i yAa omz];first | assumption | (simp[go_sem, *];done));have u:f.frozen? ⟨w.heap.size,1,none⟩=false:=(by rw[Gw i yAa omz];first | assumption | (simp[go_sem, *];done));have l:f.cell? ⟨w.heap.size,2,none⟩=some (.int .i64 0):=(by rw[Df i yAa omz];first | assumption | (simp[go_sem, *];done));have t:f.frozen? ⟨w.heap.size,2,none⟩=false:=(by rw[Gw i yAa omz];first | assumption | (simp[go_sem, *];done))))
 refine bodyPost_ret (v:=.agg #[.int .i64 d.kind, .int .i64 d.n, .int .i64 d.p]) (by simp[results,results74,go_sem,j,q1,l]) rfl ?_;exact⟨d,rfl,hd,rlA,glA⟩
theorem Avm (g P:Nat)(w:World)(hr:H5 w g P)(E:P<=10000000000):
  Calls prog 100 #[.pointer (some ⟨g,0,none⟩)] w λe w'=>∃d:Stil.Dev,e=.returned (.agg #[.int .i64 d.kind, .int .i64 d.n, .int .i64 d.p])/\Small d/\H5 w' g (P+8)/\w.grownBy w' (some g):=by
 have hg:=Ug hr;go_enter func100,ntmps100
 go_wp2_with (first | (go_at_call_of 23 (Value.int IntKind.i64 13);refine(Ew g _ _ _ raA omz omz omz).mono ?_;rintro e j ⟨x,rfl,A,z,t,i⟩;have u:w.heap.size<j.heap.size:=A51 ltA i.size;obtain⟨m,q,q1,y,l,s⟩:j.cell? ⟨w.heap.size,0,none⟩=some (.int .i64 0)/\j.frozen? ⟨w.heap.size,0,none⟩=false/\j.cell? ⟨w.heap.size,1,none⟩=some (.int .i64 0)/\j.frozen? ⟨w.heap.size,1,none⟩=false/\j.cell? ⟨w.heap.size,2,none⟩=some (.int .i64 0)/\j.frozen? ⟨w.heap.size,2,none⟩=false:=⟨gcA i,gfA i,gcA i,gfA i,gcA i,gfA i⟩) | (go_at_call 72;refine(Ob g _ _ _ raA omz omz omz).mono ?_;rintro e k ⟨d,rfl,hd,t,i⟩;have u:w.heap.size<k.heap.size:=A51 ltA i.size;obtain⟨m,q,q1,y,l,s⟩:k.cell? ⟨w.heap.size,0,none⟩=some (.int .i64 0)/\k.frozen? ⟨w.heap.size,0,none⟩=false/\k.cell? ⟨w.heap.size,1,none⟩=some (.int .i64 0)/\k.frozen? ⟨w.heap.size,1,none⟩=false/\k.cell? ⟨w.heap.size,2,none⟩=some (.int .i64 0)/\k.frozen? ⟨w.heap.size,2,none⟩=false:=⟨gcA i,gfA i,gcA i,gfA i,gcA i,gfA i⟩) | (go_at_call_of 23 (Value.int IntKind.i64 20);refine(Ew g _ _ _ raA omz omz omz).mono ?_;rintro e j ⟨x,rfl,A,z,t,i⟩;have u:w.heap.size<j.heap.size:=A51 ltA i.size;have F:k.heap.size<j.heap.size:=A51 ltA i.size;obtain⟨m,q,q1,y,l,s,G,H,J,I,D,C⟩:j.cell? ⟨w.heap.size,0,none⟩=some (.int .i64 0)/\j.frozen? ⟨w.heap.size,0,none⟩=false/\j.cell? ⟨w.heap.size,1,none⟩=some (.int .i64 0)/\j.frozen? ⟨w.heap.size,1,none⟩=false/\j.cell? ⟨w.heap.size,2,none⟩=some (.int .i64 0)/\j.frozen? ⟨w.heap.size,2,none⟩=false/\j.cell? ⟨k.heap.size,0,none⟩=some (.int .i64 d.kind)/\j.frozen? ⟨k.heap.size,0,none⟩=false/\j.cell? ⟨k.heap.size,1,none⟩=some (.int .i64 d.n)/\j.frozen? ⟨k.heap.size,1,none⟩=false/\j.cell? ⟨k.heap.size,2,none⟩=some (.int .i64 d.p)/\j.frozen? ⟨k.heap.size,2,none⟩=false:=⟨gcA i,gfA i,gcA i,gfA i,gcA i,gfA i,gcA i,gfA i,gcA i,gfA i,gcA i,gfA i⟩) | (go_at_call 101;refine(Agm g _ d _ raA omz hd).mono ?_;rintro e j ⟨f,rfl,B,t,i⟩;have u:w.heap.size<j.heap.size:=A51 ltA i.size;obtain⟨m,q,q1,y,l,s⟩:j.cell? ⟨w.heap.size,0,none⟩=some (.int .i64 0)/\j.frozen? ⟨w.heap.size,0,none⟩=false/\j.cell? ⟨w.heap.size,1,none⟩=some (.int .i64 0)/\j.frozen? ⟨w.heap.size,1,none⟩=false/\j.cell? ⟨w.heap.size,2,none⟩=some (.int .i64 0)/\j.frozen? ⟨w.heap.size,2,none⟩=false:=⟨gcA i,gfA i,gcA i,gfA i,gcA i,gfA i⟩))
 ·refine bodyPost_ret (v:=.agg #[.int .i64 f.kind, .int .i64 f.n, .int .i64 f.p]) (by simp[results,results100,go_sem,m,q1,l]) rfl ?_
  exact⟨f,rfl,B,rlA,glA⟩
 ·refine bodyPost_ret (v:=.agg #[.int .i64 d.kind, .int .i64 d.n, .int .i64 d.p]) (by simp[results,results100,go_sem,m,q1,l]) rfl ?_
  exact⟨d,rfl,hd,rlA,glA⟩
end Go.Proofs.YtnpfcnolmkanfaaGreatDoor
