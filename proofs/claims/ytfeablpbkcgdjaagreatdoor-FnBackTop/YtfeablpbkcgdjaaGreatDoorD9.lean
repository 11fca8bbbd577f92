import Derived.Test.YtfeablpbkcgdjaaGreatDoorGC
set_option linter.defProp false
set_option maxHeartbeats 4000000
set_option maxRecDepth 100000
namespace Go.Proofs.YtfeablpbkcgdjaaGreatDoor
open Tryz Stil Go.RowKit Go.Sort Go.BigFrame
variable {P base c g k lo n o p:Nat}{W X a w':World}{op:Int}{r:Option Nat}{u v v1 v2 v3:Value}
def Ph (w:World)(g P:Nat):Prop:=∃(a:Option Addr) (len cap p:Nat),w.cell? ⟨g,0,none⟩=some (.slice a len cap)/\w.cell? ⟨g,1,none⟩=some (.int .i64 p)/\w.frozen? ⟨g,1,none⟩=false/\p<=P/\len<=2000/\
 ∀i,i<len->∃b o z,a=some ⟨b,o,none⟩/\b<g/\w.cell? ⟨b,o+i,none⟩=some (.int .u8 z)/\0<=z/\z<256
theorem Q4 (w:World)(g o:Nat)(v:Value):w.grownBy (w.setCell ⟨g,o,none⟩ v) (some g):=by
 refine⟨rfl,rfl,rfl,AW,λk d b=>?_⟩;simp only[World.setCell,Ge];rw[if_neg (λe=>b (by rw[e]))]
theorem OU {w:World}{a:Option Addr}{len cap:Nat}(x:w.cell? ⟨g,0,none⟩=some (.slice a len cap))(f:w.cell? ⟨g,1,none⟩=some (.int .i64 p))(s:w.frozen? ⟨g,1,none⟩=false)(B:p<=P)(e:len<=2000)
  (d:∀i,i<len->∃b o z,a=some ⟨b,o,none⟩/\b<g/\w.cell? ⟨b,o+i,none⟩=some (.int .u8 z)/\0<=z/\z<256):
  Ph (w.setCell ⟨g,1,none⟩ (.int .i64 ((p:Int)+1))) g (P+1)/\w.grownBy (w.setCell ⟨g,1,none⟩ (.int .i64 ((p:Int)+1))) (some g):=by
 refine⟨⟨a,len,cap,p+1,?_,?_,?_,AU,e,λi hi=>?_⟩,Q4 _ _ _ _⟩
 .simp[go_sem,x]
 .simp[go_sem,f]
 .simp[go_sem,s]
 .obtain⟨b,o,z,l,t,q,j,m⟩:=d i hi
  have y:¬b=g:=AU
  have A:¬g=b:=AU
  exact⟨b,o,z,l,t,by simp[go_sem,q],j,m⟩
theorem dY (a b:Nat)(j:a<4611686018427387904)(i:b<4611686018427387904):∃m:Nat,bits .xor .i64 (a:Int) (b:Int)=(m:Int):=by
 have f:a % 2 ^ 64=a:=Nat.mod_eq_of_lt AU;have d:b % 2 ^ 64=b:=Nat.mod_eq_of_lt AU;have l:a ^^^ b<2 ^ 62:=Nat.xor_lt_two_pow (n:=62) AU AU;refine⟨a ^^^ b,?_⟩;have e:bits .xor .i64 (a:Int) (b:Int)=IntKind.i64.wrap ((a ^^^ b:Nat):Int):=by
  simp only[bits,BitVec.ofInt_natCast,BitVec.toNat_xor,BitVec.toNat_ofNat];rw[show IntKind.i64.bits=64 from rfl,f,d]
 rw[e,IntKind.wrap_i64];omega
def OA {w:World}(h:Ph w g P)(n:Nat):Ph (w.drewN n) g P:=h
def grown_drewN {w:World}(h:w.grownBy w' (some g))(n:Nat):w.grownBy (w'.drewN n) (some g):=⟨h.os,h.tape,h.output,h.size,h.block⟩
def Uj (w:World)(r:Option Nat):w.grownBy w r:=⟨rfl,rfl,rfl,B7 _,λ_ _ _=>rfl⟩
def Oq {b c:World}(h:a.grownBy b r)(k:b.grownBy c r):a.grownBy c r:=
 ⟨k.os.trans h.os,k.tape.trans h.tape,k.output.trans h.output,CB h.size k.size,λj e d=>(k.block j (B8 e h.size) d).trans (h.block j e d)⟩
theorem grown_below {b:World}(h:Below a.heap.size a b)(r:Option Nat):a.grownBy b r:=⟨h.os,h.tape,h.output,h.size,λk d _=>h.block k d⟩
theorem Fe (g P:Nat)(n:Int)(w:World)(hr:Ph w g P)(Z:P<=1000000000000)(af:n<=1000000)(ae:-1000000<=n):
  Calls prog 33 #[.pointer (some ⟨g,0,none⟩), .int .i64 n] w λe w'=>∃x:Int,e=.returned (.int .i64 x)/\0<=x/\(x<n\/x=0)/\Ph w' g (P+1)/\w.grownBy w' (some g):=by
 obtain⟨a,len,cap,p,A,C,l,s,j,d⟩:=hr;by_cases R:len=0
 .subst R
  have f:=OU A C l s j d;clear d;go_enter func33,ntmps33
  go_wp2
  all_goals go_ret
  all_goals exact⟨0,rfl,AU,AU,f⟩
 by_cases J:n<1
 .have f:=OU A C l s j d
  have Q:((len:Int)==0)=false:=by rw[CJ];omega
  have V:decide (n<1)=true:=by simpa using J
  clear d;go_enter func33,ntmps33
  go_wp2
  go_ret;exact⟨0,rfl,AU,AU,f⟩
 .have Q:((len:Int)==0)=false:=by rw[CJ];omega
  have f:=OU A C l s j d;by_cases O:p<len
  .obtain⟨b,o,z,rfl,N,I,L,T⟩:=d p O
   have G:0<=z % n/\z % n<n:=⟨Int.emod_nonneg _ AU,Int.emod_lt_of_pos _ AU⟩
   clear d;go_enter func33,ntmps33
   go_wp2
   go_ret;exact⟨_,rfl,G.1,Or.inl G.2,f⟩
  .obtain⟨b,o,z,rfl,N,I,L,T⟩:=d (p % len) (Nat.mod_lt _ AU)
   obtain⟨b',o',M,H,_,K,Y,ad⟩:=d ((p*7+3) % len) (Nat.mod_lt _ AU);simp only[EQ,Addr.mk.injEq,F3] at H;obtain⟨rfl,rfl⟩:=H;clear d;obtain⟨q,i⟩:∃q,q=p % len:=⟨_,rfl⟩
   obtain⟨r,hr⟩:∃r,r=(p*7+3) % len:=⟨_,rfl⟩
   obtain⟨t,B⟩:∃t,t=p / len:=⟨_,rfl⟩
   have ag:q<len:=by rw[i];exact Nat.mod_lt _ AU
   have aa:r<len:=by rw[hr];exact Nat.mod_lt _ AU
   have ac:t<=p:=by rw[B];exact Nat.div_le_self _ _
   have U:(p:Int) % (len:Int)=q:=by rw[i];simp
   have ah:((p:Int)*7+3) % (len:Int)=r:=by rw[hr];simp
   have ab:(p:Int) / (len:Int)=t:=by rw[B];simp
   rw[<-i] at I;rw[<-hr] at K;clear i hr B;go_enter func33,ntmps33
   go_wp2
   go_quiet (fail)
   go_wp2
   go_ret;obtain⟨y,D⟩:∃y:Nat,z*131+M*1117+(p:Int)*29+(t:Int)*53=(y:Int):=FN AU;have S:y<4611686018427387904:=AU
   obtain⟨m,F⟩:=dY y (y / 64) S AU;have E:((y:Int) / 64)=((y / 64:Nat):Int):=AU
   refine⟨_,rfl,?_,?_,OA f.1 _,grown_drewN f.2 _⟩
   .rw[D,E,F];exact Int.tmod_nonneg _ AU
   .left;rw[D,E,F];exact Int.tmod_lt_of_pos _ AU
theorem Df {w:World}{b:Nat}(h:w.grownBy w' (some g))(d:b<w.heap.size)(f:b≠g):w'.cell? ⟨b,o,none⟩=w.cell? ⟨b,o,none⟩:=by
 unfold World.cell?;rw[h.block b d (by intro e;cases e;exact f rfl)]
theorem F8 {w:World}{b:Nat}(h:w.grownBy w' (some g))(d:b<w.heap.size)(f:b≠g):w'.frozen? ⟨b,o,none⟩=w.frozen? ⟨b,o,none⟩:=by
 unfold World.frozen?;rw[h.block b d (by intro e;cases e;exact f rfl)]
def Xy {w:World}(h:w.grownBy a r)(o:Obj):w.grownBy (a.alloc o) r:=Oq h (grown_below (Aa a o) r)
def ZR {w:World}(h:w.grownBy a r)(n:Nat):w.grownBy (a.drewN n) r:=⟨h.os,h.tape,h.output,h.size,h.block⟩
def cx {w:World}(h:w.grownBy a r):w.grownBy a.drew r:=⟨h.os,h.tape,h.output,h.size,h.block⟩
theorem KX {w:World}{p:Addr}(e:w.heap.size<=p.block)(h:w.grownBy a r)(v:Value):w.grownBy (a.setCell p v) r:=
 ⟨h.os,h.tape,h.output,by simpa using h.size,λk d b=>by
  rw[<-h.block k d b];simp only[World.setCell,Ge]
  rw[if_neg AU]⟩
def Bl {w b:World}(h:w.grownBy a r)(k:a.grownBy b r):w.grownBy b r:=Oq h k
def Av {w:World}(h:w.grownBy W r:=by(repeat (first | with_reducible exact Uj _ _ | with_reducible assumption | with_reducible refine KX (by first | exact B7 _ | (simp;done) | (simp;omega) | omega) ?_ _ | with_reducible refine Xy ?_ _ | with_reducible refine ZR ?_ _ | with_reducible refine cx ?_ | with_reducible refine Bl ?_ (by with_reducible assumption)))):w.grownBy W r:=h
theorem Gq {w:World}(h:Ph w g P)(o:Obj):Ph (w.alloc o) g P:=by
 obtain⟨a,len,cap,p,e,C,y,A,m,l⟩:=h;have f:g<w.heap.size:=by
  unfold World.cell? at e;cases j:w.heap[g]? with
  | none=>simp[j] at e
  | some x=>exact(Array.getElem?_eq_some_iff.1 j).1
 have d:=Aa w o;refine⟨a,len,cap,p,by rw[d.cell (p:=⟨g,0,none⟩) f];exact e,by rw[d.cell (p:=⟨g,1,none⟩) f];exact C,by rw[d.frozen (p:=⟨g,1,none⟩) f];exact y,A,m,λi hi=>?_⟩;obtain⟨b,q,z,s,B,E,D,t⟩:=l i hi;exact⟨b,q,z,s,B,by rw[d.cell (p:=⟨b,q+i,none⟩) (by show b<_;omega)];exact E,D,t⟩
theorem Tf {w:World}(h:Ph w g P):g<w.heap.size:=by
 obtain⟨a,len,cap,p,d,_⟩:=h;unfold World.cell? at d;cases b:w.heap[g]? with
 | none=>simp[b] at d
 | some x=>exact(Array.getElem?_eq_some_iff.1 b).1
theorem XO {w:World}{Q:Nat}(h:Ph w g P)(j:P<=Q):Ph w g Q:=by
 obtain⟨a,len,cap,p,f,e,d,i,b⟩:=h;exact⟨a,len,cap,p,f,e,d,AU,b⟩
theorem QB {w:World}{b:Nat}(h:Ph w g P)(B:g<b)(v:Value):Ph (w.setCell ⟨b,o,none⟩ v) g P:=by
 obtain⟨a,len,cap,p,m,x,f,j,d,s⟩:=h;have F:¬g=b:=AU
 have E:¬b=g:=AU
 refine⟨a,len,cap,p,by simp[go_sem,m],by simp[go_sem,x],by simp[go_sem,f],j,d,λi hi=>?_⟩;obtain⟨c,q,z,e,l,A,t,y⟩:=s i hi;have C:¬c=b:=AU
 have D:¬b=c:=AU
 exact⟨c,q,z,e,l,by simp[go_sem,A],t,y⟩
theorem Cm {b:Nat}(h:c≠b):(W.setCell ⟨b,o,none⟩ v).cell? ⟨c,p,none⟩=W.cell? ⟨c,p,none⟩:=by
 have d:¬b=c:=λe=>h e.symm
 simp[go_sem]
theorem Ej {b:Nat}(h:p≠o):(W.setCell ⟨b,o,none⟩ v).cell? ⟨b,p,none⟩=W.cell? ⟨b,p,none⟩:=by
 have d:¬o=p:=λe=>h e.symm
 simp[go_sem]
theorem Ez {b:Nat}(h:W.cell? ⟨b,o,none⟩=some u):(W.setCell ⟨b,o,none⟩ v).cell? ⟨b,o,none⟩=some v:=by
 simp[go_sem,h]
theorem Nc {b:Nat}:(W.setCell ⟨b,o,none⟩ v).frozen? ⟨c,p,none⟩=W.frozen? ⟨c,p,none⟩:=by
 simp[go_sem]
def Bz {ob:Obj}(h:c<W.heap.size):(W.alloc ob).cell? ⟨c,p,none⟩=W.cell? ⟨c,p,none⟩:=(Aa W ob).cell (p:=⟨c,p,none⟩) h
def Gp {ob:Obj}(h:c<W.heap.size):(W.alloc ob).frozen? ⟨c,p,none⟩=W.frozen? ⟨c,p,none⟩:=(Aa W ob).frozen (p:=⟨c,p,none⟩) h
def XP {w:World}(h:Ph w g P):Ph w.drew g P:=h
def BD {w:World}(h:Ph w g P:=by(repeat (first | with_reducible assumption | with_reducible refine QB ?_ (by first | omega | (simp;omega)) _ | with_reducible refine Gq ?_ _ | with_reducible refine OA ?_ _ | with_reducible refine XP ?_ | exact XO (by with_reducible assumption) (by omega)))):Ph w g P:=h
def Dx {a:Addr}:W.drew.cell? a=W.cell? a:=rfl
def BN {a:Addr}{o:Option Value}(h:W.cell? a=o:=by(repeat (first | with_reducible assumption | with_reducible refine Dx.trans ?_ | with_reducible refine(Cm (by omega)).trans ?_ | with_reducible refine(Ej (by omega)).trans ?_ | with_reducible refine(Bz BH).trans ?_ | with_reducible apply Ez | (simp[go_sem];done)))):W.cell? a=o:=h
def Jv {a:Addr}:W.drew.frozen? a=W.frozen? a:=rfl
def ffA {a:Addr}{o:Bool}(h:W.frozen? a=o:=by(repeat (first | with_reducible assumption | with_reducible refine Jv.trans ?_ | with_reducible refine Nc.trans ?_ | with_reducible refine(Gp BH).trans ?_ | (simp[go_sem];done)))):W.frozen? a=o:=h
theorem gcA {w:World}{b:Nat}{v:Option Value}(hg:w.grownBy W (some g))(h1:b<w.heap.size:=by first | with_reducible assumption | (simp;done) | (simp;omega))(h2:b≠g:=by omega)(h3:w.cell? ⟨b,o,none⟩=v:=by(repeat (first | with_reducible assumption | with_reducible refine Dx.trans ?_ | with_reducible refine(Cm (by omega)).trans ?_ | with_reducible refine(Ej (by omega)).trans ?_ | with_reducible refine(Bz BH).trans ?_ | with_reducible apply Ez | (simp[go_sem];done)))):W.cell? ⟨b,o,none⟩=v:=(Df hg h1 h2).trans h3
def gfA {w:World}{b:Nat}{v:Bool}(hg:w.grownBy W (some g))(h1:b<w.heap.size:=by first | with_reducible assumption | (simp;done) | (simp;omega))(h2:b≠g:=by omega)(h3:w.frozen? ⟨b,o,none⟩=v:=by(repeat (first | with_reducible assumption | with_reducible refine Jv.trans ?_ | with_reducible refine Nc.trans ?_ | with_reducible refine(Gp BH).trans ?_ | (simp[go_sem];done)))):W.frozen? ⟨b,o,none⟩=v:=(F8 hg h1 h2).trans h3
def cF {w:World}{b:Nat}(d:g<b)(h:Ph w g P):Ph (w.setCell ⟨b,o,none⟩ v) g P:=QB h d v
def A6 {w:World}(h:Ph w g P:=by(repeat (first | with_reducible assumption | with_reducible apply Gq | with_reducible apply OA | with_reducible apply XP | (with_reducible apply cF;first | omega | (simp;omega))))):Ph w g P:=h
def EA (W:World)(b:Nat)(v0 v1:Value):Prop:=b<W.heap.size/\W.cell? ⟨b,0,none⟩=some v0/\W.frozen? ⟨b,0,none⟩=false/\W.cell? ⟨b,1,none⟩=some v1/\W.frozen? ⟨b,1,none⟩=false
def DY (W:World)(b:Nat)(v0 v1 v2:Value):Prop:=b<W.heap.size/\W.cell? ⟨b,0,none⟩=some v0/\W.frozen? ⟨b,0,none⟩=false/\W.cell? ⟨b,1,none⟩=some v1/\W.frozen? ⟨b,1,none⟩=false/\W.cell? ⟨b,2,none⟩=some v2/\W.frozen? ⟨b,2,none⟩=false
def CW (W:World)(b:Nat)(v0 v1 v2 v3:Value):Prop:=b<W.heap.size/\W.cell? ⟨b,0,none⟩=some v0/\W.frozen? ⟨b,0,none⟩=false/\W.cell? ⟨b,1,none⟩=some v1/\W.frozen? ⟨b,1,none⟩=false/\W.cell? ⟨b,2,none⟩=some v2/\W.frozen? ⟨b,2,none⟩=false/\W.cell? ⟨b,3,none⟩=some v3/\W.frozen? ⟨b,3,none⟩=false
def CU (W:World)(b:Nat)(v0 v1 v2 v3 d e:Value):Prop:=b<W.heap.size/\W.cell? ⟨b,0,none⟩=some v0/\W.frozen? ⟨b,0,none⟩=false/\W.cell? ⟨b,1,none⟩=some v1/\W.frozen? ⟨b,1,none⟩=false/\W.cell? ⟨b,2,none⟩=some v2/\W.frozen? ⟨b,2,none⟩=false/\W.cell? ⟨b,3,none⟩=some v3/\W.frozen? ⟨b,3,none⟩=false/\W.cell? ⟨b,4,none⟩=some d/\W.frozen? ⟨b,4,none⟩=false/\W.cell? ⟨b,5,none⟩=some e/\W.frozen? ⟨b,5,none⟩=false
def K4 {w:World}{b:Nat}(h:w.grownBy W (some g))(d:b<w.heap.size):b<W.heap.size:=B8 d h.size
def QbC (W:World)(b i:Nat)(v:Value):Prop:=W.cell? ⟨b,i,none⟩=some v/\W.frozen? ⟨b,i,none⟩=false
def qbC {b i:Nat}(h:W.cell? ⟨b,i,none⟩=some v:=by(refine(Df (by with_reducible assumption) BH (by omega)).trans ?_;exact BN))(k:W.frozen? ⟨b,i,none⟩=false:=by(refine(F8 (by with_reducible assumption) BH (by omega)).trans ?_;exact ffA)):QbC W b i v:=⟨h,k⟩
def qb2 {b:Nat}{v0:Value}(hz:b<W.heap.size:=by(refine K4 (by with_reducible assumption) ?_;first | with_reducible assumption | (simp;done) | (simp;omega)))(h0:QbC W b 0 v0:=by exact qbC)(h1:QbC W b 1 v1:=by exact qbC):EA W b v0 v1:=⟨hz,h0.1,h0.2,h1.1,h1.2⟩
def qb3 {b:Nat}{v0:Value}(hz:b<W.heap.size:=by(refine K4 (by with_reducible assumption) ?_;first | with_reducible assumption | (simp;done) | (simp;omega)))(h0:QbC W b 0 v0:=by exact qbC)(h1:QbC W b 1 v1:=by exact qbC)(h2:QbC W b 2 v2:=by exact qbC):DY W b v0 v1 v2:=⟨hz,h0.1,h0.2,h1.1,h1.2,h2.1,h2.2⟩
def qb4 {b:Nat}{v0:Value}(hz:b<W.heap.size:=by(refine K4 (by with_reducible assumption) ?_;first | with_reducible assumption | (simp;done) | (simp;omega)))(h0:QbC W b 0 v0:=by exact qbC)(h1:QbC W b 1 v1:=by exact qbC)(h2:QbC W b 2 v2:=by exact qbC)(h3:QbC W b 3 v3:=by exact qbC):CW W b v0 v1 v2 v3:=⟨hz,h0.1,h0.2,h1.1,h1.2,h2.1,h2.2,h3.1,h3.2⟩
def qb6 {b:Nat}{v0 v4 v5:Value}(hz:b<W.heap.size:=by(refine K4 (by with_reducible assumption) ?_;first | with_reducible assumption | (simp;done) | (simp;omega)))(h0:QbC W b 0 v0:=by exact qbC)(h1:QbC W b 1 v1:=by exact qbC)(h2:QbC W b 2 v2:=by exact qbC)(h3:QbC W b 3 v3:=by exact qbC)(h4:QbC W b 4 v4:=by exact qbC)(h5:QbC W b 5 v5:=by exact qbC):CU W b v0 v1 v2 v3 v4 v5:=⟨hz,h0.1,h0.2,h1.1,h1.2,h2.1,h2.2,h3.1,h3.2,h4.1,h4.2,h5.1,h5.2⟩
def QbD (W:World)(b:Nat)(d:Stil.B9):Prop:=DY W b (.int .i64 d.kind) (.int .i64 d.n) (.int .i64 d.p)
def qbD {b:Nat}{d:Stil.B9}(h:DY W b (.int .i64 d.kind) (.int .i64 d.n) (.int .i64 d.p):=by exact qb3):QbD W b d:=h
def QbE (W:World)(b:Nat):Prop:=EA W b (.int .i64 0) (.slice none 0 0)
def qbE {b:Nat}(h:EA W b (.int .i64 0) (.slice none 0 0):=by exact qb2):QbE W b:=h
def E9 (W:World)(b:Nat):Prop:=CW W b (.int .i64 0) (.int .i64 0) (.slice none 0 0) (.slice none 0 0)
def FG {b:Nat}(h:CW W b (.int .i64 0) (.int .i64 0) (.slice none 0 0) (.slice none 0 0):=by exact qb4):E9 W b:=h
def E7 (W:World)(b:Nat):Prop:=CU W b (.int .i64 0) (.int .i64 0) (.slice none 0 0) (.slice none 0 0) (.slice none 0 0) (.slice none 0 0)
def FD {b:Nat}(h:CU W b (.int .i64 0) (.int .i64 0) (.slice none 0 0) (.slice none 0 0) (.slice none 0 0) (.slice none 0 0):=by exact qb6):E7 W b:=h
theorem Zr (g P b cap:Nat)(l:List Int)(w:World)(hr:Ph w g P)(q:P<=1000000000000)(i:Im w b 0 l)(A:b<w.heap.size)(z:b≠g)(C:1<=l.length)(E:l.length<=1000):
  Calls prog 57 #[.pointer (some ⟨g,0,none⟩), .slice (some ⟨b,0,none⟩) l.length cap] w λe w'=>∃x:Int,e=.returned (.int .i64 x)/\x∈l/\Ph w' g (P+1)/\w.grownBy w' (some g):=by
 have t:Hid (Im w b 0 l):=i;clear i;go_enter func57,ntmps57
 go_wp2_with (go_at_call 33;refine(Fe g P _ _ hr q AU AU).mono ?_;rintro e m ⟨x,rfl,s,D,y,d⟩;obtain⟨j,rfl⟩:=FN s;have f:j<l.length:=AU;have B:m.cell? ⟨b,j,none⟩=some (.int .i64 l[j]):=(by rw[Df d A z];have:=t j f;rwa [Cd] at this))
 go_ret;exact⟨_,rfl,CG f,y,d⟩
def Small (d:Stil.B9):Prop:=(-10000000000<=d.kind/\d.kind<=10000000000)/\(-10000000000<=d.n/\d.n<=10000000000)/\(-10000000000<=d.p/\d.p<=10000000000)
theorem Small.fits {d:Stil.B9}(h:Small d):d.fits:=by
 obtain⟨⟨a,b⟩,⟨c,d⟩,⟨e,f⟩⟩:=h;exact⟨⟨AU,AU⟩,⟨AU,AU⟩,⟨AU,AU⟩⟩
def Zo {k n p:Int}(h:-10000000000<=k/\k<=10000000000/\-10000000000<=n/\n<=10000000000/\-10000000000<=p/\p<=10000000000):Small ⟨k,n,p⟩:=⟨⟨h.1,h.2.1⟩,⟨h.2.2.1,h.2.2.2.1⟩,⟨h.2.2.2.2.1,h.2.2.2.2.2⟩⟩
def Ta (k:Int):0<=H6 k/\H6 k<=64:=by
 unfold H6;split
 .omega
 .split
  .omega
  .split
   .omega
   .split<;>omega
def zja {p:Prop}(h:p:=by
 refine bodyPost_ret (by simp[results,results87,go_sem,q0,q1,q2];rfl) rfl ?_;try simp only[C2,EJ,EK] at*
 exact⟨⟨_,_,_⟩,rfl,Zo AU,BD,Av⟩):p:=h
theorem Np (g P:Nat)(k:Int)(w:World)(hr:Ph w g P)(E:P<=100000000000)(M:-1000000<=k)(G:k<=1000000):
  Calls prog 87 #[.pointer (some ⟨g,0,none⟩), .int .i64 k] w λe w'=>∃d:Stil.B9,e=.returned (.agg #[.int .i64 d.kind, .int .i64 d.n, .int .i64 d.p])/\Small d/\Ph w' g (P+3)/\w.grownBy w' (some g):=by
 have N:=Tf hr;have I:¬w.heap.size=g:=AU
 have K:=Ta k;by_cases C:k=11
 .subst C
  go_enter func87,ntmps87
  go_wp2_with (go_at_call_of 57 (12:Nat);refine(Zr g _ _ _ [0,1,2,3,5,-1,-7,10,100,32767,-32768,1000] _ (Gq (Gq hr _) _) AU (Dh (by simp[F5,go_sem])) AW BQ AW AW).mono ?_;rintro e f ⟨x,rfl,D,j,q⟩;obtain⟨l,q0,m,q1,s,q2,t⟩:DY f w.heap.size (.int .i64 0) (.int .i64 0) (.int .i64 0):=qb3)
  all_goals exact zja
 .by_cases B:k=12
  .subst B
   go_enter func87,ntmps87
   go_wp2_with (first | (go_at_call_of 57 (11:Nat);refine(Zr g _ _ _ [0,1,5,-5,25,-15,999999999,-999999999,3,1001,7] _ (Gq (Gq hr _) _) AU (Dh (by simp[F5,go_sem])) AW BQ AW AW).mono ?_;rintro e f ⟨x,rfl,D,j,q⟩;obtain⟨l,q0,m,q1,s,q2,t⟩:DY f w.heap.size (.int .i64 0) (.int .i64 0) (.int .i64 0):=qb3) | (go_at_call_of 33 (Value.int IntKind.i64 6);refine(Fe g _ _ _ (j) AU AU AU).mono ?_;rintro e f ⟨x,rfl,y,z,j,q⟩;obtain⟨l,q0,m,q1,s,q2,t⟩:DY f w.heap.size (.int .i64 0) (.int .i64 0) (.int .i64 0):=qb3))
   all_goals exact zja
  .by_cases A:k=13
   .subst A
    go_enter func87,ntmps87
    go_wp2_with ((go_at_call_of 33 (Value.int IntKind.i64 4);refine(Fe g _ _ _ (Gq hr _) AU AU AU).mono ?_;rintro e f ⟨x,rfl,y,z,j,q⟩;obtain⟨l,q0,m,q1,s,q2,t⟩:DY f w.heap.size (.int .i64 0) (.int .i64 0) (.int .i64 0):=qb3))
    all_goals exact zja
   .have J:(k==11)=false:=by simpa using C
    have F:(k==12)=false:=by simpa using B
    have H:(k==13)=false:=by simpa using A
    go_enter func87,ntmps87
    go_wp2_with (first | (go_at_call_of 33 (Value.int IntKind.i64 4);refine(Fe g _ _ _ (Gq hr _) AU AU AU).mono ?_;rintro e f ⟨x,rfl,y,z,j,q⟩;obtain⟨l,q0,m,q1,s,q2,t⟩:DY f w.heap.size (.int .i64 0) (.int .i64 0) (.int .i64 0):=qb3) | (go_at_call_of 33 (Value.int IntKind.i64 6);refine(Fe g _ _ _ (j) AU AU AU).mono ?_;rintro e f ⟨x,rfl,y,z,j,q⟩;obtain⟨l,q0,m,q1,s,q2,t⟩:DY f w.heap.size (.int .i64 0) (.int .i64 0) (.int .i64 0):=qb3) | (go_at_call_of 33 (Value.int IntKind.i64 (H6 k));refine(Fe g _ _ _ (j) AU AU AU).mono ?_;rintro e f ⟨x,rfl,y,z,j,q⟩;obtain⟨l,q0,m,q1,s,q2,t⟩:DY f w.heap.size (.int .i64 0) (.int .i64 0) (.int .i64 0):=qb3) | (go_at_call 125;refine(Wp _ _).mono ?_;rintro e L ⟨rfl,rfl⟩))
    all_goals exact zja
theorem mI (g P:Nat)(k n p:Int)(w:World)(hr:Ph w g P)(Y:P<=100000000000)(L:Small ⟨k,n,p⟩):
  Calls prog 127 #[.pointer (some ⟨g,0,none⟩), .agg #[.int .i64 k, .int .i64 n, .int .i64 p]] w λe w'=>∃d:Stil.B9,e=.returned (.agg #[.int .i64 d.kind, .int .i64 d.n, .int .i64 d.p])/\Small d/\Ph w' g (P+3)/\w.grownBy w' (some g):=by
 have hg:=Tf hr;have O:=Ta k;obtain⟨⟨U,N⟩,⟨Q,K⟩,⟨V,S⟩⟩:=L;simp only at U N Q K V S;obtain⟨z,H⟩:∃z,z=H6 k:=⟨_,rfl⟩
 rw[<-H] at O;have T:Hid (H6 k=z):=H.symm;clear H;go_enter func127,ntmps127
 go_wp2_with (first | (go_at_call_of 33 (Value.int IntKind.i64 6);refine(Fe g _ _ _ (Gq (Gq hr _) _) AU AU AU).mono ?_;rintro e f ⟨x,rfl,J,R,j,D⟩;obtain⟨B,E,C,q1,F,y,I⟩:DY f w.heap.size (.int .i64 k) (.int .i64 n) (.int .i64 p):=qb3;obtain⟨G,l,t,m,A,q,s⟩:DY f (w.heap.size+1) (.int .i64 0) (.int .i64 0) (.int .i64 0):=qb3) | (go_at_call_of 33 (Value.int IntKind.i64 16);refine(Fe g _ _ _ (j) AU AU AU).mono ?_;rintro e f ⟨x,rfl,J,R,j,D⟩;obtain⟨B,E,C,q1,F,y,I⟩:DY f w.heap.size (.int .i64 k) (.int .i64 n) (.int .i64 p):=qb3;obtain⟨G,l,t,m,A,q,s⟩:DY f (w.heap.size+1) (.int .i64 0) (.int .i64 0) (.int .i64 0):=qb3) | (go_at_call_of 57 (16:Nat);refine(Zr g _ _ _ [-1,4,5,15,16,31,32,63,64,255,32768,-32769,1000000000,-1000000000,20,10] _ (Gq j _) AU (Dh (by simp[F5,go_sem])) AW BQ AW AW).mono ?_;rintro e f ⟨x,rfl,M,j,D⟩;obtain⟨B,E,C,q1,F,y,I⟩:DY f w.heap.size (.int .i64 k) (.int .i64 n) (.int .i64 p):=qb3;obtain⟨G,l,t,m,A,q,s⟩:DY f (w.heap.size+1) (.int .i64 0) (.int .i64 0) (.int .i64 0):=qb3) | (go_at_call_of 57 (5:Nat);refine(Zr g _ _ _ [-1,0,1,6,7] _ (Gq j _) AU (Dh (by simp[F5,go_sem])) AW BQ AW AW).mono ?_;rintro e f ⟨x,rfl,M,j,D⟩;obtain⟨B,E,C,q1,F,y,I⟩:DY f w.heap.size (.int .i64 k) (.int .i64 n) (.int .i64 p):=qb3;obtain⟨G,l,t,m,A,q,s⟩:DY f (w.heap.size+1) (.int .i64 0) (.int .i64 0) (.int .i64 0):=qb3) | (go_at_call 125;refine(Wp _ _).mono ?_;rw[T.out];rintro e Z ⟨rfl,rfl⟩))
 all_goals
  refine bodyPost_ret (by simp[results,results127,go_sem,l,m,q];rfl) rfl ?_;try simp only[C2,EJ,EK] at*
  exact⟨⟨_,_,_⟩,rfl,Zo AU,BD,Av⟩
def UF (g P:Nat)(a:Stil.B9)(w:World)(hr:Ph w g P)(b:P<=100000000000)(f:Small a):
  Calls prog 127 #[.pointer (some ⟨g,0,none⟩), .agg #[.int .i64 a.kind, .int .i64 a.n, .int .i64 a.p]] w λe w'=>∃d:Stil.B9,e=.returned (.agg #[.int .i64 d.kind, .int .i64 d.n, .int .i64 d.p])/\Small d/\Ph w' g (P+3)/\w.grownBy w' (some g):=
 mI g P a.kind a.n a.p w hr b f
theorem cB (g P:Nat)(w:World)(hr:Ph w g P)(B:P<=10000000000):
  Calls prog 92 #[.pointer (some ⟨g,0,none⟩)] w λe w'=>∃d:Stil.B9,e=.returned (.agg #[.int .i64 d.kind, .int .i64 d.n, .int .i64 d.p])/\Small d/\Ph w' g (P+4)/\w.grownBy w' (some g):=by
 have C:=Tf hr;go_enter func92,ntmps92
 go_wp2_with (first | (go_at_call_of 57 (9:Nat);refine(Zr g _ _ _ [1,1,2,3,3,4,6,7,8] _ (Gq (Gq hr _) _) AU (Dh (by simp[F5,go_sem])) AW BQ AW AW).mono ?_;rintro e f ⟨x,rfl,z,l,j⟩;simp only[C2,EJ,EK] at z;obtain⟨t,q,y,q1,s,m,A⟩:DY f w.heap.size (.int .i64 0) (.int .i64 0) (.int .i64 0):=qb3) | (go_at_call 87;refine(Np g _ x _ l AU AU AU).mono ?_;rintro e f ⟨d,rfl,hd,l,j⟩;have t:w.heap.size<f.heap.size:=B8 A5 j.size;have q:f.cell? ⟨w.heap.size,0,none⟩=some (.int .i64 0):=(by rw[Df j A5 AU];first | assumption | (simp[go_sem, *];done));have y:f.frozen? ⟨w.heap.size,0,none⟩=false:=(by rw[F8 j A5 AU];first | assumption | (simp[go_sem, *];done));have q1:f.cell? ⟨w.heap.size,1,none⟩=some (.int .i64 0):=(by rw[Df j A5 AU];first | assumption | (simp[go_sem, *];done));have s:f.frozen? ⟨w.heap.size,1,none⟩=false:=(by rw[F8 j A5 AU];first | assumption | (simp[go_sem, *];done));have m:f.cell? ⟨w.heap.size,2,none⟩=some (.int .i64 0):=(by rw[Df j A5 AU];first | assumption | (simp[go_sem, *];done));have A:f.frozen? ⟨w.heap.size,2,none⟩=false:=(by rw[F8 j A5 AU];first | assumption | (simp[go_sem, *];done))))
 refine bodyPost_ret (v:=.agg #[.int .i64 d.kind, .int .i64 d.n, .int .i64 d.p]) (by simp[results,results92,go_sem,q,q1,m]) rfl ?_;exact⟨d,rfl,hd,BD,Av⟩
theorem Ua (g P:Nat)(w:World)(hr:Ph w g P)(B:P<=10000000000):
  Calls prog 88 #[.pointer (some ⟨g,0,none⟩)] w λe w'=>∃d:Stil.B9,e=.returned (.agg #[.int .i64 d.kind, .int .i64 d.n, .int .i64 d.p])/\Small d/\Ph w' g (P+4)/\w.grownBy w' (some g):=by
 have C:=Tf hr;go_enter func88,ntmps88
 go_wp2_with (first | (go_at_call_of 57 (7:Nat);refine(Zr g _ _ _ [9,9,9,11,11,7,8] _ (Gq (Gq hr _) _) AU (Dh (by simp[F5,go_sem])) AW BQ AW AW).mono ?_;rintro e f ⟨x,rfl,z,l,j⟩;simp only[C2,EJ,EK] at z;obtain⟨t,q,y,q1,s,m,A⟩:DY f w.heap.size (.int .i64 0) (.int .i64 0) (.int .i64 0):=qb3) | (go_at_call 87;refine(Np g _ x _ l AU AU AU).mono ?_;rintro e f ⟨d,rfl,hd,l,j⟩;have t:w.heap.size<f.heap.size:=B8 A5 j.size;have q:f.cell? ⟨w.heap.size,0,none⟩=some (.int .i64 0):=(by rw[Df j A5 AU];first | assumption | (simp[go_sem, *];done));have y:f.frozen? ⟨w.heap.size,0,none⟩=false:=(by rw[F8 j A5 AU];first | assumption | (simp[go_sem, *];done));have q1:f.cell? ⟨w.heap.size,1,none⟩=some (.int .i64 0):=(by rw[Df j A5 AU];first | assumption | (simp[go_sem, *];done));have s:f.frozen? ⟨w.heap.size,1,none⟩=false:=(by rw[F8 j A5 AU];first | assumption | (simp[go_sem, *];done));have m:f.cell? ⟨w.heap.size,2,none⟩=some (.int .i64 0):=(by rw[Df j A5 AU];first | assumption | (simp[go_sem, *];done));have A:f.frozen? ⟨w.heap.size,2,none⟩=false:=(by rw[F8 j A5 AU];first | assumption | (simp[go_sem, *];done))))
 refine bodyPost_ret (v:=.agg #[.int .i64 d.kind, .int .i64 d.n, .int .i64 d.p]) (by simp[results,results88,go_sem,q,q1,m]) rfl ?_;exact⟨d,rfl,hd,BD,Av⟩
theorem Xr (g P:Nat)(w:World)(hr:Ph w g P)(B:P<=10000000000):
  Calls prog 89 #[.pointer (some ⟨g,0,none⟩)] w λe w'=>∃d:Stil.B9,e=.returned (.agg #[.int .i64 d.kind, .int .i64 d.n, .int .i64 d.p])/\Small d/\Ph w' g (P+4)/\w.grownBy w' (some g):=by
 have C:=Tf hr;go_enter func89,ntmps89
 go_wp2_with (first | (go_at_call_of 57 (5:Nat);refine(Zr g _ _ _ [10,10,10,12,13] _ (Gq (Gq hr _) _) AU (Dh (by simp[F5,go_sem])) AW BQ AW AW).mono ?_;rintro e f ⟨x,rfl,z,l,j⟩;simp only[C2,EJ,EK] at z;obtain⟨t,q,y,q1,s,m,A⟩:DY f w.heap.size (.int .i64 0) (.int .i64 0) (.int .i64 0):=qb3) | (go_at_call 87;refine(Np g _ x _ l AU AU AU).mono ?_;rintro e f ⟨d,rfl,hd,l,j⟩;have t:w.heap.size<f.heap.size:=B8 A5 j.size;have q:f.cell? ⟨w.heap.size,0,none⟩=some (.int .i64 0):=(by rw[Df j A5 AU];first | assumption | (simp[go_sem, *];done));have y:f.frozen? ⟨w.heap.size,0,none⟩=false:=(by rw[F8 j A5 AU];first | assumption | (simp[go_sem, *];done));have q1:f.cell? ⟨w.heap.size,1,none⟩=some (.int .i64 0):=(by rw[Df j A5 AU];first | assumption | (simp[go_sem, *];done));have s:f.frozen? ⟨w.heap.size,1,none⟩=false:=(by rw[F8 j A5 AU];first | assumption | (simp[go_sem, *];done));have m:f.cell? ⟨w.heap.size,2,none⟩=some (.int .i64 0):=(by rw[Df j A5 AU];first | assumption | (simp[go_sem, *];done));have A:f.frozen? ⟨w.heap.size,2,none⟩=false:=(by rw[F8 j A5 AU];first | assumption | (simp[go_sem, *];done))))
 refine bodyPost_ret (v:=.agg #[.int .i64 d.kind, .int .i64 d.n, .int .i64 d.p]) (by simp[results,results89,go_sem,q,q1,m]) rfl ?_;exact⟨d,rfl,hd,BD,Av⟩
theorem XL (g P:Nat)(w:World)(hr:Ph w g P)(G:P<=10000000000):
  Calls prog 126 #[.pointer (some ⟨g,0,none⟩)] w λe w'=>∃d:Stil.B9,e=.returned (.agg #[.int .i64 d.kind, .int .i64 d.n, .int .i64 d.p])/\Small d/\Ph w' g (P+8)/\w.grownBy w' (some g):=by
 have N:=Tf hr;go_enter func126,ntmps126
 go_wp2_with (first | (go_at_call_of 33 (Value.int IntKind.i64 13);refine(Fe g _ _ _ A6 AU AU AU).mono ?_;rintro e j ⟨x,rfl,C,E,t,y⟩;obtain⟨q,m,s,q1,z,l,A⟩:DY j w.heap.size (.int .i64 0) (.int .i64 0) (.int .i64 0):=qb3) | (go_at_call 87;refine(Np g _ _ _ A6 AU AU AU).mono ?_;rintro e B ⟨d,rfl,hd,t,y⟩;obtain⟨q,m,s,q1,z,l,A⟩:DY B w.heap.size (.int .i64 0) (.int .i64 0) (.int .i64 0):=qb3) | (go_at_call_of 33 (Value.int IntKind.i64 20);refine(Fe g _ _ _ A6 AU AU AU).mono ?_;rintro e j ⟨x,rfl,C,E,t,y⟩;obtain⟨q,m,s,q1,z,l,A⟩:DY j w.heap.size (.int .i64 0) (.int .i64 0) (.int .i64 0):=qb3;obtain⟨M,I,H,K,J,L,F⟩:QbD j B.heap.size d:=qbD) | (go_at_call 127;refine(UF g _ d _ A6 AU hd).mono ?_;rintro e j ⟨f,rfl,D,t,y⟩;obtain⟨q,m,s,q1,z,l,A⟩:DY j w.heap.size (.int .i64 0) (.int .i64 0) (.int .i64 0):=qb3))
 .refine bodyPost_ret (v:=.agg #[.int .i64 f.kind, .int .i64 f.n, .int .i64 f.p]) (by simp[results,results126,go_sem,m,q1,l]) rfl ?_
  exact⟨f,rfl,D,BD,Av⟩
 .refine bodyPost_ret (v:=.agg #[.int .i64 d.kind, .int .i64 d.n, .int .i64 d.p]) (by simp[results,results126,go_sem,m,q1,l]) rfl ?_
  exact⟨d,rfl,hd,BD,Av⟩
def J6 (w:World)(g:Nat)(v:Value)(ds:List Stil.B9):Prop:=∃a cap,v=.slice a ds.length cap/\(ds.length<=cap/\(a=none->cap=0))/\∀i (h:i<ds.length),∃b o,a=some ⟨b,o,none⟩/\g<b/\b<w.heap.size/\Iz w b (o+i*3) ds[i]
theorem J6.devs {w:World}{ds:List Stil.B9}(h:J6 w g v ds):Ak w v ds:=by
 obtain⟨a,cap,rfl,_,j⟩:=h;exact⟨a,cap,rfl,λi hi=>by obtain⟨b,o,f,_,e,d⟩:=j i hi;exact⟨b,o,f,e,d⟩⟩
theorem J6.grown {w:World}{ds:List Stil.B9}(h:J6 w lo v ds)(hg:w.grownBy w' (some g))(t:g<=lo):J6 w' lo v ds:=by
 obtain⟨a,cap,rfl,f,s⟩:=h;refine⟨a,cap,rfl,f,λi hi=>?_⟩;obtain⟨b,o,l,m,d,e,q,j⟩:=s i hi;refine⟨b,o,l,m,B8 d hg.size,?_,?_,?_⟩
 .rw[Df hg d AU];exact e
 .rw[Df hg d AU];exact q
 .rw[Df hg d AU];exact j
def LA (e:Ending)(w w':World)(g Q k:Nat):Prop:=∃(op:Int) (v:Value) (b:List Stil.B9),e=.returned (.agg #[.int .i64 op,v])/\(-1000000<=op/\op<=1000000)/\J6 w' (w.heap.size - 1) v b/\(∀d∈b,Small d)/\b.length<=k/\Ph w' g Q/\w.grownBy w' (some g)
theorem all1 {a:Stil.B9}(b:Small a):∀d∈[a],Small d:=by intro d hd;simp at hd;subst hd;exact b
theorem all2 {a b:Stil.B9}(f:Small a)(e:Small b):∀d∈[a,b],Small d:=by intro d hd;simp at hd;rcases hd with rfl | rfl;exact f;exact e
theorem e7 {a b c:Stil.B9}(h:Small a)(e:Small b)(f:Small c):∀d∈[a,b,c],Small d:=by intro d hd;simp at hd;rcases hd with rfl | rfl | rfl;exact h;exact e;exact f
theorem Jy {b:Nat}(ds:List Stil.B9)(cs:Array Value)(l:b=X.heap.size)(w:g<b)(f:cs.toList=Bv ds)(hl:ds.length<=100):J6 (X.alloc (.cells cs 92)) g (.slice (some ⟨b,0,none⟩) ds.length ds.length) ds:=by
 subst l;have m:cs.size=ds.length*3:=by
  have:=congrArg List.length f
  rw[Qb] at this;simpa using this
 have h:=World.ownsRow_lit (base:=X.heap.size) (e:=92) (size:=3) X cs ds.length (B7 _) BI m;rw[f] at h;obtain⟨a,cap,j,t⟩:=Ak.of_owns h;simp only[Value.slice.injEq] at j;obtain⟨rfl,_,rfl⟩:=j;refine⟨_,_,rfl,⟨B7 _,λh=>by cases h⟩,λi hi=>?_⟩;obtain⟨b,o,d,s,q⟩:=t i hi;have x:b=X.heap.size:=by simp only[EQ,Addr.mk.injEq] at d;exact d.1.symm
 exact⟨b,o,d,AU,s,q⟩
def IG (w:World)(b:Nat)(d:Stil.B9):Prop:=b<w.heap.size/\w.cell? ⟨b,0,none⟩=some (.int .i64 d.kind)/\w.cell? ⟨b,1,none⟩=some (.int .i64 d.n)/\w.cell? ⟨b,2,none⟩=some (.int .i64 d.p)/\w.frozen? ⟨b,0,none⟩=false/\w.frozen? ⟨b,1,none⟩=false/\w.frozen? ⟨b,2,none⟩=false
def BR {b:Nat}{d:Stil.B9}(h:IG W b d:=by refine⟨BH,?_,?_,?_,?_,?_,?_⟩<;>first | (exact BN;done) | (repeat (first | with_reducible assumption | with_reducible refine Jv.trans ?_ | with_reducible refine Nc.trans ?_ | with_reducible refine(Gp BH).trans ?_ | (simp[go_sem];done)))):IG W b d:=h
def We (w:World)(b:Nat)(op:Int)(v:Value):Prop:=b<w.heap.size/\w.cell? ⟨b,0,none⟩=some (.int .i64 op)/\w.cell? ⟨b,1,none⟩=some v/\w.frozen? ⟨b,0,none⟩=false/\w.frozen? ⟨b,1,none⟩=false
def BL {b:Nat}(h:We W b op v:=by refine⟨BH,?_,?_,?_,?_⟩<;>first | (exact BN;done) | (repeat (first | with_reducible assumption | with_reducible refine Jv.trans ?_ | with_reducible refine Nc.trans ?_ | with_reducible refine(Gp BH).trans ?_ | (simp[go_sem];done)))):We W b op v:=h
def We.grown {w:World}{b:Nat}(h:We w b op v)(hg:w.grownBy w' (some g))(e:b≠g):We w' b op v:=by
 obtain⟨d,l,j,i,f⟩:=h;refine⟨B8 d hg.size,?_,?_,?_,?_⟩
 .rw[Df hg d e];exact l
 .rw[Df hg d e];exact j
 .rw[F8 hg d e];exact i
 .rw[F8 hg d e];exact f
theorem J6.setAt {w:World}{r d j cap:Nat}{ds:List Stil.B9}(f:r≠d)(h:J6 w g (.slice (some ⟨d,j,none⟩) n cap) ds):J6 (w.setCell ⟨r,o,none⟩ u) g (.slice (some ⟨d,j,none⟩) n cap) ds:=by
 obtain⟨a,c,l,x,B⟩:=h;simp only[Value.slice.injEq] at l;obtain⟨rfl,rfl,rfl⟩:=l;refine⟨_,_,rfl,x,λi hi=>?_⟩;obtain⟨b,q,e,z,s,t,A,y⟩:=B i hi;have m:b=d:=by simp only[EQ,Addr.mk.injEq] at e;exact e.1.symm
 subst m;refine⟨b,q,e,z,by simpa using s,?_,?_,?_⟩
 .rw[Cm (Ne.symm f)];exact t
 .rw[Cm (Ne.symm f)];exact A
 .rw[Cm (Ne.symm f)];exact y
def dG {d:World}{b:Nat}(ds:List Stil.B9)(cs:Array Value)(e:(X.alloc (.cells cs 92)).grownBy d (some g))(h:g<=lo)(f:b=X.heap.size)(j:lo<b)(i:cs.toList=Bv ds)(hl:ds.length<=100):J6 d lo (.slice (some ⟨b,0,none⟩) ds.length ds.length) ds:=
 (Jy ds cs f j i hl).grown e h
theorem dD {w:World}{cap:Nat}{a:Option Addr}{ds:List Stil.B9}(k:Nat)(h:J6 w g (.slice a n cap) ds)(x:k<=ds.length):J6 w g (.slice a k cap) (ds.take k):=by
 obtain⟨y,c,d,j,t⟩:=h;simp only[Value.slice.injEq] at d;obtain⟨rfl,rfl,rfl⟩:=d;have m:(ds.take k).length=k:=by simp;omega
 refine⟨_,_,by rw[m],⟨AU,j.2⟩,λi hi=>?_⟩;obtain⟨b,q,l,s,e,f⟩:=t i AU;refine⟨b,q,l,s,e,?_⟩;rw[List.getElem_take];exact f
theorem N6 {w:World}(h:Ph w g P)(hg:w.grownBy w' r)(hr:∀k,r=some k->g<k):Ph w' g P:=by
 have E:=Tf h;obtain⟨a,len,cap,p,x,B,j,s,l,y⟩:=h;have d:∀b,b<=g->w'.heap[b]?=w.heap[b]?:=λb d=>hg.block b AU (λe=>by have:=hr b e.symm;omega)
 have f:∀b o,b<=g->w'.cell? ⟨b,o,none⟩=w.cell? ⟨b,o,none⟩:=λb o h=>by unfold World.cell?;rw[d b h]
 refine⟨a,len,cap,p,by rw[f _ _ (B7 _)];exact x,by rw[f _ _ (B7 _)];exact B,by unfold World.frozen? at j ⊢;rw[d g (B7 _)];exact j,s,l,λi hi=>?_⟩;obtain⟨b,q,z,m,t,D,A,C⟩:=y i hi;exact⟨b,q,z,m,t,by rw[f _ _ AU];exact D,A,C⟩
def Ih {w b:World}{s:Option Nat}(h:w.grownBy a r)(k:a.grownBy b s)(i:∀j,s=some j->w.heap.size<=j):w.grownBy b r:=
 ⟨k.os.trans h.os,k.tape.trans h.tape,k.output.trans h.output,CB h.size k.size,λj d f=>(k.block j (B8 d h.size) (λe=>by have:=i j e.symm;omega)).trans (h.block j d f)⟩
theorem XW {w:World}{ds:List Stil.B9}(h:w.ownsRow base 92 3 v ds.length (Bv ds))(hg:g<base):J6 w g v ds:=by
 have hd:=Ak.of_owns h;rcases h.2 with⟨m,A⟩ | ⟨b,cap,cur,d,z,B,x,_⟩
 .obtain⟨a,c,d,l⟩:=hd
  rw[m] at d;simp only[Value.slice.injEq] at d;obtain⟨rfl,q,rfl⟩:=d;exact⟨none,0,by rw[m,q],⟨AU,λ_=>rfl⟩,λi hi=>absurd hi AU⟩
 .obtain⟨a,c,t,l⟩:=hd
  have e:=d.symm.trans t;simp only[Value.slice.injEq] at e;obtain⟨rfl,_,rfl⟩:=e;refine⟨_,cap,d,⟨x,λh=>by cases h⟩,λi hi=>?_⟩;obtain⟨j,o,f,s,y⟩:=l i hi;have:j=b:=by simp only[EQ,Addr.mk.injEq] at f;exact f.1.symm
  exact⟨j,o,f,AU,s,y⟩
theorem WS {w:World}{ds:List Stil.B9}(b:ds.length=n)(h:w.ownsRow base 92 3 v n (Bv ds))(hg:g<base):J6 w g v ds:=by
 subst b;exact XW h hg
theorem XY {w:World}{b cap:Nat}{ds:List Stil.B9}(h:J6 w g (.slice (some ⟨b,o,none⟩) n cap) ds):∀j u,(Bv ds)[j]?=some u->w.cell? ((⟨b,o,none⟩:Addr).add j)=some u:=by
 intro j u i;obtain⟨a,c,l,_,t⟩:=h;simp only[Value.slice.injEq] at l;obtain⟨rfl,rfl,rfl⟩:=l;have D:j<ds.length*3:=by rw[<-Qb];exact(List.getElem?_eq_some_iff.1 i).1
 obtain⟨B,C,m,_,_,q,z,s⟩:=t (j / 3) AU;simp only[EQ,Addr.mk.injEq,F3] at m;obtain⟨rfl,rfl⟩:=m;obtain⟨A,x,y⟩:=Qm ds (j / 3) AU;rw[Addr.add_lit];have f:j % 3=0\/j % 3=1\/j % 3=2:=AU
 rcases f with f | f | f
 .have e:j=j / 3*3:=by omega
  have d:o+j=o+j / 3*3:=AU
  rw[d,q,<-A,<-e];exact i
 .have e:j=j / 3*3+1:=by omega
  have d:o+j=o+j / 3*3+1:=AU
  rw[d,z,<-x,<-e];exact i
 .have e:j=j / 3*3+2:=by omega
  have d:o+j=o+j / 3*3+2:=AU
  rw[d,s,<-y,<-e];exact i
theorem Cf {w:World}{e:TypeId}{size:Nat}{xs:List Value}(h:w.ownsRow base e size v n xs)(hg:w.grownBy w' (some g))(j:g<base):w'.ownsRow base e size v n xs:=by
 refine⟨h.1,?_⟩;rcases h.2 with i | ⟨k,cap,cur,hv,b,f,d⟩
 .exact Or.inl i
 .have:=(h.lt k yEi).2
  exact Or.inr ⟨k,cap,cur,hv,b,by rw[hg.block k this (by intro e;cases e;omega)];exact f,d⟩
theorem RN:∀(b:List Stil.B9) (k:Nat) (d:Stil.B9),k<b.length->(((Bv b).set (k*3) (.int .i64 d.kind)).set (k*3+1) (.int .i64 d.n)).set (k*3+2) (.int .i64 d.p)=Bv (b.set k d)
 | [],k,d,h=>by simp at h
 | c::r,0,d,_=>rfl
 | c::r,k+1,d,h=>by
  have e:Bv (c::r)=.int .i64 c.kind::.int .i64 c.n::.int .i64 c.p::Bv r:=rfl;have f:Bv ((c::r).set (k+1) d)=.int .i64 c.kind::.int .i64 c.n::.int .i64 c.p::Bv (r.set k d):=rfl;have i:(k+1)*3=k*3+1+1+1:=AU
  rw[e,f,i,<-RN r k d Br];rfl
theorem TY {w:World}{b cap:Nat}{ds:List Stil.B9}(h:w.ownsRow base 92 3 (.slice (some ⟨b,0,none⟩) n cap) n (Bv ds))(d:Stil.B9)(e:k<ds.length):
  (((w.setCell ⟨b,k*3,none⟩ (.int .i64 d.kind)).setCell ⟨b,k*3+1,none⟩ (.int .i64 d.n)).setCell ⟨b,k*3+2,none⟩ (.int .i64 d.p)).ownsRow base 92 3 (.slice (some ⟨b,0,none⟩) n cap) n (Bv (ds.set k d)):=by
 rw[<-RN ds k d e];exact(((h.stored (k*3) _).1.stored (k*3+1) _).1.stored (k*3+2) _).1
theorem L0 {w:World}{b cap:Nat}{ds:List Stil.B9}(h:w.ownsRow base 92 3 (.slice (some ⟨b,0,none⟩) ds.length cap) ds.length (Bv ds))(i:k<ds.length):
  w.cell? ⟨b,k*3,none⟩=some (.int .i64 ds[k].kind)/\w.cell? ⟨b,k*3+1,none⟩=some (.int .i64 ds[k].n)/\w.cell? ⟨b,k*3+2,none⟩=some (.int .i64 ds[k].p)/\w.frozen? ⟨b,k*3,none⟩=false/\w.frozen? ⟨b,k*3+1,none⟩=false/\w.frozen? ⟨b,k*3+2,none⟩=false:=by
 obtain⟨g,c,e,_,_,_,d⟩:=G7 h AU;simp only[Value.slice.injEq,EQ,Addr.mk.injEq] at e;obtain⟨⟨rfl,_⟩,_⟩:=e;obtain⟨j,f,l⟩:=Qm ds k i;exact⟨d _ _ j,d _ _ f,d _ _ l,h.frozenAt _,h.frozenAt _,h.frozenAt _⟩
def ei (w:World)(g:Nat):J6 w g (.slice none 0 0) []:=⟨none,0,rfl,⟨B7 _,λ_=>rfl⟩,λi hi=>by simp at hi⟩
theorem NS {ds:List Stil.B9}(h:∀d∈ds,Small d)(k:Nat)(d:Stil.B9)(hd:Small d):∀x∈ds.set k d,Small x:=λx b=>by
 rcases fi b with e | rfl
 .exact h x e
 .exact hd
theorem VF (g P:Nat)(op:Int)(v:Value)(ds:List Stil.B9)(w:World)(hr:Ph w g P)(hP:P<=1000000000)(aa:-1000000<=op/\op<=1000000)(hv:J6 w g v ds)(hs:∀d∈ds,Small d)(hl:ds.length<=50000):
  Calls prog 93 #[.pointer (some ⟨g,0,none⟩), .agg #[.int .i64 op,v]] w λe w'=>LA e w w' g (P+20) (ds.length+1):=by
 obtain⟨i0,hi,t,F,af⟩:=info_parts YK;have hg:=Tf hr;have HV:Hid (∀W,w.grownBy W (some g)->J6 W g v ds):=λW h=>hv.grown h (B7 _)
 have L:Hid (∀d∈ds,Small d):=hs;obtain⟨a,cap,rfl,⟨aA,av⟩,hx⟩:=hv;have Y:Hid (∀i (h:i<ds.length),∃b o,a=some ⟨b,o,none⟩/\g<b/\b<w.heap.size/\Iz w b (o+i*3) ds[i]):=hx;clear hx hs;go_enter func93,ntmps93;go_upto_region 1 with fail
 go_cut [5] (λs5 wc=>∃b D,s5=.slice (some ⟨b,0,none⟩) ds.length D/\wc.ownsRow (w.heap.size+2) 92 3 (.slice (some ⟨b,0,none⟩) ds.length D) ds.length (Bv ds)/\Ph wc g P/\w.grownBy wc (some g)/\We wc w.heap.size op (.slice a ds.length cap)/\We wc (w.heap.size+1) 0 (.slice none 0 0))
 case first=>
  cases a with
  | none=>
   obtain rfl:ds=[]:=by
    cases ds with
    | nil=>rfl
    | cons d r=>obtain⟨b,o,h,_⟩:=Y 0 AW;cases h
   obtain rfl:=av rfl
   go_wp2
   go_meet;have s:=World.ownsRow_lit (base:=w.heap.size+2) (e:=92) (size:=3) ((w.alloc (.cells #[.int .i64 op, .slice none 0 0] 51)).alloc (.cells #[.int .i64 0, .slice none 0 0] 51)) #[] 0 AW BI rfl;exact⟨w.heap.size+1+1,0,rfl,by simpa[Bv] using s,BD,Av,BL,BL⟩
  | some N=>
   have HN:Hid (∀W,w.grownBy W (some g)->∀j u,(Bv ds)[j]?=some u->W.cell? (N.add j)=some u):=by
    intro W hW j u J;by_cases hd:ds=[]
    .subst hd;simp[Bv] at J
    .obtain⟨b,o,h,_⟩:=Y 0 (by cases ds with | nil=>exact absurd rfl hd | cons d r=>simp)
     cases h;exact XY (HV W hW) j u J
   have s:=World.ownsRow_lit (base:=w.heap.size+2) (e:=92) (size:=3) ((w.alloc (.cells #[.int .i64 op, .slice (some N) ds.length cap] 51)).alloc (.cells #[.int .i64 0, .slice none 0 0] 51)) #[] 0 AW BI rfl;have ar:((((w.alloc (.cells #[.int .i64 op, .slice (some N) ds.length cap] 51)).alloc (.cells #[.int .i64 0, .slice none 0 0] 51)).alloc (.cells #[] 92))).ownsRow (w.heap.size+2) 92 3 (.slice (some ⟨w.heap.size+1+1,0,none⟩) 0 0) 0 []:=by simpa using s
   clear s
   go_wp2_with (at_builtin;refine wpList_append_own _ rfl _ _ 49 rfl (w.heap.size+2) 92 i0 (.agg #[.int .i64 0, .int .i64 0, .int .i64 0]) 3 24 underlying49 hi t F af rfl AZ _ _ _ rfl ar N ds.length cap (Bv ds) rfl (Qb _) (HN _ Av) (jO _) BI AU AW ?_)
   intro v' w3 ai ag ah;have Q:((((w.alloc (.cells #[.int .i64 op, .slice (some N) ds.length cap] 51)).alloc (.cells #[.int .i64 0, .slice none 0 0] 51)).alloc (.cells #[] 92))).grownBy w3 (some (w.heap.size+1+1)):=ag;obtain⟨b,D,rfl⟩:∃b D,v'=.slice (some ⟨b,0,none⟩) ds.length D:=by
    rcases ai.2 with⟨h0,h1⟩ | ⟨b,D,cur,h0,_⟩
    .exact absurd h0 ah
    .exact⟨b,D,h0⟩
   clear ag ah
   go_wp2
   go_meet;refine⟨b,D,rfl,ai,N6 (Gq (Gq (Gq hr _) _) _) Q yCh,Ih (Xy (Xy (Xy (Uj _ _) _) _) _) Q yCh,We.grown ?_ Q AU,We.grown ?_ Q AU⟩
   .exact BL
   .exact BL
 case rest=>
  obtain⟨b,D,rfl,O,C,ac,⟨ae,E,q1,B,z⟩,⟨aj,m,l,G,A⟩⟩:=hcut;clear HV Y;have au:w.heap.size+2<=b/\b<wc.heap.size:=O.lt b rfl;obtain⟨az,ay⟩:=au;go_upto_if 37 with(first | (go_at_call_of 33 (Value.int IntKind.i64 6);refine(Fe g _ _ _ A6 AU AU AU).mono ?_;rintro e w3 ⟨x,rfl,ak,ap,C,R⟩;obtain⟨t,E,B,q1,z⟩:EA w3 w.heap.size (.int .i64 op) (.slice a ds.length cap):=qb2;obtain⟨F,m,G,l,A⟩:QbE w3 ((w.heap.size+1)):=qbE) | (go_at_call_of 57 (10:Nat);refine(Zr g _ _ _ [-1,0,1,5,11,20,21,26,37,38] _ A6 AU (Dh (by simp[F5,go_sem])) AW BQ AW AW).mono ?_;rintro e w4 ⟨y,rfl,H,C,bD⟩;simp only[C2,EJ,EK] at H;obtain⟨t,E,B,q1,z⟩:EA w4 w.heap.size (.int .i64 op) (.slice a ds.length cap):=qb2;obtain⟨F,m,G,l,A⟩:QbE w4 ((w.heap.size+1)):=qbE))
  .have s:=Cf ((Cf O R AU).alloc _) bD AU
   refine bodyPost_ret (by simp[results,results93,go_sem,m,l];rfl) rfl ?_;exact⟨_,_,ds,rfl,AU,XW (ownsRow_setCell_below (ownsRow_setCell_below s (DN _) _) (DN _) _) AU,L.out,AU,BD,Av⟩
  .have s:=Cf O R AU
   go_region_law (first | (refine gW rfl _ _ 49 rfl (w.heap.size+2) 92 i0 (.agg #[.int .i64 0, .int .i64 0, .int .i64 0]) 3 24 underlying49 hi BA BA af rfl AZ _ _ _ rfl ((Cf s ⟨q.os,q.tape,q.output,q.size,q.block⟩ AU).alloc _) _ _ _ (Sl d) rfl rfl (Xf _ (Sl d) _ _ AW) (by intro u hu;simp[Sl] at hu;rcases hu with rfl | rfl | rfl<;>rfl) BI AU yBd ?_;intro v' I ab oJ;obtain⟨b6,ao,rfl,aB,aw,_,_⟩:=G7 ab AU;have aC:(K.alloc (.cells #[.int .i64 d.kind, .int .i64 d.n, .int .i64 d.p] 92)).grownBy I (some b):=oJ;obtain⟨t,E,B,q1,z⟩:EA I w.heap.size (.int .i64 op) (.slice a ds.length cap):=qb2;obtain⟨F,m,G,l,A⟩:QbE I ((w.heap.size+1)):=qbE) | (go_simp;go_at_call 126;refine(XL g _ _ A6 AU).mono ?_;rintro e K ⟨d,rfl,hd,C,q⟩;have ax:w3.heap.size<=K.heap.size:=q.size;obtain⟨t,E,B,q1,z⟩:EA K w.heap.size (.int .i64 op) (.slice a ds.length cap):=qb2;obtain⟨F,m,G,l,A⟩:QbE K ((w.heap.size+1)):=qbE))
   all_goals go_wp2
   all_goals
    have fB:=N6 (Gq C _) aC yCh;have yh:w.grownBy I (some g):=Ih (Xy (Bl (Bl ac R) ⟨q.os,q.tape,q.output,q.size,q.block⟩) _) aC yCh;have bG:I.ownsRow (w.heap.size+2) 92 3 (.slice (some ⟨b6,0,none⟩) (ds.length+1) ao) (ds.length+1) (Bv (ds++[d])):=by rw[gp];exact ab
    refine bodyPost_ret (by simp[results,results93,go_sem,m,l];rfl) rfl ?_;refine⟨_,_,ds++[d],rfl,aa,WS (n:=ds.length+1) AW (ownsRow_setCell_below (ownsRow_setCell_below bG (DN _) _) (DN _) _) AU,?_,AW,BD,Av⟩;intro y H;rcases List.mem_append.1 H with H | H
    .exact L y H
    .simp at H;subst H;exact hd
  .refine bodyPost_ret (by simp[results,results93,go_sem,m,l];rfl) rfl ?_
   exact⟨_,_,[],rfl,aa,ei _ _,AW,AW,BD,Av⟩
  .have s:=Cf O R AU
   have e0:(x==0)=false:=BA
   have e1:(x==1)=false:=BA
   have e2:(x==2)=false:=BA
   rw[e0,e1,e2];go_cut [6] (λ_ wc=>∃M:List Stil.B9,M.length=ds.length/\(∀d∈M,Small d)/\wc.ownsRow (w.heap.size+2) 92 3 (.slice (some ⟨b,0,none⟩) ds.length D) ds.length (Bv M)/\Ph wc g (P+19)/\w.grownBy wc (some g)/\We wc w.heap.size op (.slice a ds.length cap)/\We wc (w.heap.size+1) 0 (.slice none 0 0))
   case first=>
    by_cases aD:ds.length=0
    .go_wp2
     go_meet;exact⟨ds,rfl,L.out,s,BD,Av,BL,BL⟩
    .go_upto_if 53 with(first | (go_at_call_of 33 (ds.length:Nat);refine(Fe g _ _ _ A6 AU AU AU).mono ?_;rintro e K ⟨y,rfl,ae,aj,C,q⟩;obtain⟨t,E,B,q1,z⟩:EA K w.heap.size (.int .i64 op) (.slice a ds.length cap):=qb2;obtain⟨F,m,G,l,A⟩:QbE K ((w.heap.size+1)):=qbE;obtain⟨j,rfl⟩:=FN ae;have J:j<ds.length:=AU;have wZ:=Cf s q AU;obtain⟨r0,U,Z,T,s1,V⟩:=L0 wZ J) | (go_at_call 127;refine(UF g _ ds[j] _ A6 AU (L _ (CG J))).mono ?_;rintro e I ⟨d,rfl,hd,C,oJ⟩;have jl:=Cf wZ oJ AU;obtain⟨r0,U,Z,T,s1,V⟩:=L0 jl J;obtain⟨t,E,B,q1,z⟩:EA I w.heap.size (.int .i64 op) (.slice a ds.length cap):=qb2;obtain⟨F,m,G,l,A⟩:QbE I ((w.heap.size+1)):=qbE) | (go_at_call_of 33 (Value.int IntKind.i64 2);refine(Fe g _ _ _ A6 AU AU AU).mono ?_;rintro e w7 ⟨x,rfl,ak,ap,C,zJ⟩;have zC:=Cf (TY jl d J) zJ AU;have S:j<(ds.set j d).length:=(by simpa using J);obtain⟨r0,U,Z,T,s1,V⟩:=L0 (by simpa using zC) S;obtain⟨t,E,B,q1,z⟩:EA w7 w.heap.size (.int .i64 op) (.slice a ds.length cap):=qb2;obtain⟨F,m,G,l,A⟩:QbE w7 ((w.heap.size+1)):=qbE))
     go_wp2_with ((go_at_call 126;refine(XL g _ _ A6 AU).mono ?_;rintro e w8 ⟨f,rfl,hf,C,zI⟩;have jk:=Cf zC zI AU;obtain⟨r0,U,Z,T,s1,V⟩:=L0 (by simpa using jk) S;obtain⟨t,E,B,q1,z⟩:EA w8 w.heap.size (.int .i64 op) (.slice a ds.length cap):=qb2;obtain⟨F,m,G,l,A⟩:QbE w8 ((w.heap.size+1)):=qbE))
     .go_meet
      exact⟨(ds.set j d).set j f,AW,NS (NS L _ _ hd) _ _ hf,TY jk f S,BD,Av,BL,BL⟩
     .go_meet
      exact⟨ds.set j d,AW,NS L _ _ hd,zC,BD,Av,BL,BL⟩
   case rest=>
    clear C E q1 m l B z G A;obtain⟨M,an,al,s,C,ac,⟨t,E,q1,B,z⟩,⟨F,m,l,G,A⟩⟩:=hcut
    go_wp2
    refine bodyPost_ret (by simp[results,results93,go_sem,m,l];rfl) rfl ?_;exact⟨_,_,M,rfl,aa,WS an (ownsRow_setCell_below (ownsRow_setCell_below s (DN _) _) (DN _) _) AU,al,AU,BD,Av⟩
