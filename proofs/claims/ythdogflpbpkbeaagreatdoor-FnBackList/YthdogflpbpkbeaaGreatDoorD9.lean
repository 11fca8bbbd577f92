import Derived.Test.YthdogflpbpkbeaaGreatDoorGC
set_option linter.defProp false
set_option maxHeartbeats 4000000
set_option maxRecDepth 100000
namespace Go.Proofs.YthdogflpbpkbeaaGreatDoor
open Tryz Stil Go.RowKit Go.Sort Go.BigFrame
variable {P c g k n o p:Nat}{W X a w':AU}{op:Int}{r:ε}{u v v1 v2 v3:AW}
def Kw(w:AU)(g P:Nat):Prop:=∃(a:Δ)(len cap p:Nat),w.cell? ⟨g,0,none⟩=some (.slice a len cap)/\w.cell? ⟨g,1,none⟩=some (.int .i64 p)/\w.frozen? ⟨g,1,none⟩=false/\p<=P/\len<=2000/\
 ∀i,i<len->∃b o z,a=some ⟨b,o,none⟩/\b<g/\w.cell? ⟨b,o+i,none⟩=some (.int .u8 z)/\0<=z/\z<256
theorem Ho(w:AU)(g o:Nat)(v:AW):w.grownBy (w.setCell ⟨g,o,none⟩ v) (some g):=by refine⟨rfl,rfl,rfl,BU,λk d b=>?_⟩;simp only[World.setCell,JP];rw[BQ (λe=>b (by rw[e]))]
theorem S5{w:AU}{a:Δ}{len cap:Nat}(q:w.cell? ⟨g,0,none⟩=some (.slice a len cap))(s:w.cell? ⟨g,1,none⟩=some (.int .i64 p))(j:w.frozen? ⟨g,1,none⟩=false)(B:p<=P)(f:len<=2000)
  (l:∀i,i<len->∃b o z,a=some ⟨b,o,none⟩/\b<g/\w.cell? ⟨b,o+i,none⟩=some (.int .u8 z)/\0<=z/\z<256):
  Kw (w.setCell ⟨g,1,none⟩ (.int .i64 ((p:Int)+1))) g (P+1)/\w.grownBy (w.setCell ⟨g,1,none⟩ (.int .i64 ((p:Int)+1))) (some g):=by
 refine⟨⟨a,len,cap,p+1,?_,?_,?_,BS,f,λi hi=>?_⟩,Ho _ _ _ _⟩
 .simp[go_sem,q]
 .simp[go_sem,s]
 .simp[go_sem,j]
 have⟨b,o,z,m,x,t,d,e⟩:=l i hi;have A:¬b=g:=BS;have y:¬g=b:=BS;exact⟨b,o,z,m,x,by simp[go_sem,t],d,e⟩
theorem py(a b:Nat)(i:a<4611686018427387904)(l:b<4611686018427387904):∃m:Nat,bits .xor .i64 (a:Int) (b:Int)=(m:Int):=by
 have f:a % 2 ^ 64=a:=Nat.mod_eq_of_lt BS;have d:b % 2 ^ 64=b:=Nat.mod_eq_of_lt BS;have j:a ^^^ b<2 ^ 62:=Nat.xor_lt_two_pow (n:=62) BS BS;refine⟨a ^^^ b,?_⟩;have e:bits .xor .i64 (a:Int) (b:Int)=IntKind.i64.wrap ((a ^^^ b:Nat):Int):=by simp only[bits,BitVec.ofInt_natCast,BitVec.toNat_xor,BitVec.toNat_ofNat];rw[show IntKind.i64.bits=64 from rfl,f,d]
 rw[e,BK];omega
def SE{w:AU}(h:Kw w g P)(n:Nat):Kw (w.drewN n) g P:=h
def grown_drewN{w:AU}(h:w.grownBy w' (some g))(n:Nat):w.grownBy (w'.drewN n) (some g):=⟨h.os,h.tape,h.output,h.size,h.block⟩
def Le(w:AU)(r:ε):w.grownBy w r:=⟨rfl,rfl,rfl,DN _,λ_ _ _=>rfl⟩
def Iy{b c:AU}(h:a.grownBy b r)(k:b.grownBy c r):a.grownBy c r:=
 ⟨k.os.tr h.os,k.tape.tr h.tape,k.output.tr h.output,DU h.size k.size,λj d e=>(k.block j (DO d h.size) e).tr (h.block j d e)⟩
theorem grown_below{b:AU}(h:AO a b)(r:ε):a.grownBy b r:=⟨h.os,h.tape,h.output,h.size,λk d _=>h.block k d⟩
theorem Vd{b:AU}(h:a.grownBy b (some g))(hg:g<=a.heap.size):Below g a b:=⟨h.os,h.tape,h.output,h.size,λk d=>h.block k BS (by intro e;cases e;omega)⟩
theorem E8(g P:Nat)(n:Int)(w:AU)(hr:Kw w g P)(hP:P<=1000000000000)(ag:n<=1000000)(ab:-1000000<=n):
  Calls prog 15 #[AH g,AB n] w λe w'=>∃x:Int,e=.returned (AB x)/\0<=x/\(x<n\/x=0)/\Kw w' g (P+1)/\w.grownBy w' (some g):=by
 obtain⟨a,len,cap,p,j,C,A,l,s,d⟩:=hr;by_cases L:len=0
 .subst L;have f:=S5 j C A l s d;clear d;go_enter func15,ntmps15;go_wp2;all_goals go_ret
  all_goals exact⟨0,rfl,BS,BS,f⟩
 by_cases Q:n<1
 .have f:=S5 j C A l s d;have K:((len:Int)==0)=false:=xAh;have ae:decide (n<1)=true:=by simpa using Q
  clear d;go_enter func15,ntmps15;go_wp2;go_ret;exact⟨0,rfl,BS,BS,f⟩
 have K:((len:Int)==0)=false:=by rw[DX];omega
 have f:=S5 j C A l s d;by_cases T:p<len
 .obtain⟨b,o,z,rfl,S,G,O,M⟩:=d p T;have E:0<=z % n/\z % n<n:=⟨Int.emod_nonneg _ BS,Int.emod_lt_of_pos _ BS⟩;clear d;go_enter func15,ntmps15;go_wp2;go_ret;exact⟨_,rfl,E.1,Or.inl E.2,f⟩
 obtain⟨b,o,z,rfl,S,G,O,M⟩:=d (p % len) (Nat.mod_lt _ BS);have⟨b',Y,R,I,_,J,aa,U⟩:=d ((p*7+3) % len) (Nat.mod_lt _ BS);simp only[FC,Addr.mk.injEq,Hj]at I;obtain⟨rfl,rfl⟩:=I;clear d;have⟨q,i⟩:=AA (p % len);have⟨r,hr⟩:=AA ((p*7+3) % len);have⟨t,B⟩:=AA (p / len);have ah:q<len:=by rw[i];exact Nat.mod_lt _ BS
 have af:r<len:=by rw[hr];exact Nat.mod_lt _ BS
 have ac:t<=p:=by rw[B];exact Nat.div_le_self _ _
 have ad:(p:Int) % (len:Int)=q:=by rw[i];simp
 have V:((p:Int)*7+3) % (len:Int)=r:=by rw[hr];simp
 have Z:(p:Int) / (len:Int)=t:=by rw[B];simp
 rw[<-i]at G;rw[<-hr]at J;clear i hr B;go_enter func15,ntmps15;go_wp2;go_quiet (fail);go_wp2;go_ret;obtain⟨y,F⟩:∃y:Nat,z*131+R*1117+(p:Int)*29+(t:Int)*53=(y:Int):=Hh BS;have N:y<4611686018427387904:=BS;have⟨m,D⟩:=py y (y / 64) N BS;have H:((y:Int) / 64)=((y / 64:Nat):Int):=BS;refine⟨_,rfl,?_,?_,SE f.1 _,grown_drewN f.2 _⟩
 .rw[F,H,D];exact Int.tmod_nonneg _ BS
 left;rw[F,H,D];exact Int.tmod_lt_of_pos _ BS
theorem Fb{w:AU}{b:Nat}(h:w.grownBy w' (some g))(f:b<w.heap.size)(d:b≠g):w'.cell? (AK b o)=w.cell? (AK b o):=by unfold World.cell?;rw[h.block b f (by intro e;cases e;exact d rfl)]
theorem Fj{w:AU}{b:Nat}(h:w.grownBy w' (some g))(f:b<w.heap.size)(d:b≠g):w'.frozen? (AK b o)=w.frozen? (AK b o):=by unfold World.frozen?;rw[h.block b f (by intro e;cases e;exact d rfl)]
def Px{w:AU}(h:w.grownBy a r)(o:Obj):w.grownBy (a.alloc o) r:=Iy h (grown_below (Aa a o) r)
def sJ{w:AU}(h:w.grownBy a r)(n:Nat):w.grownBy (a.drewN n) r:=⟨h.os,h.tape,h.output,h.size,h.block⟩
def ti{w:AU}(h:w.grownBy a r):w.grownBy a.drew r:=⟨h.os,h.tape,h.output,h.size,h.block⟩
theorem OC{w:AU}{p:Ab}(e:w.heap.size<=p.block)(h:w.grownBy a r)(v:AW):w.grownBy (a.setCell p v) r:=
 ⟨h.os,h.tape,h.output,by simpa using h.size,λk d b=>by
  rw[<-h.block k d b];simp only[World.setCell,JP]
  rw[BQ BS]⟩
def E5{w b:AU}(h:w.grownBy a r)(k:a.grownBy b r):w.grownBy b r:=Iy h k
def B0{w:AU}(h:w.grownBy W r:=by(repeat(first|with_reducible exact Le _ _|with_reducible assumption|with_reducible refine OC (by first|exact DN _|(simp;done)|(simp;omega)|omega) ?_ _|with_reducible refine Px ?_ _|with_reducible refine sJ ?_ _|with_reducible refine ti ?_|with_reducible refine E5 ?_ (by with_reducible assumption)))):w.grownBy W r:=h
theorem Gl{w:AU}(h:Kw w g P)(o:Obj):Kw (w.alloc o) g P:=by
 obtain⟨a,len,cap,p,e,C,B,y,A,s⟩:=h;have f:g<w.heap.size:=by
  unfold World.cell? at e;cases j:w.heap[g]? with
  |none=>simp[j]at e|some x=>exact(BF.1 j).1
 have d:=Aa w o;refine⟨a,len,cap,p,by rwa[d.cell (p:=(AK g 0)) f],by rwa[d.cell (p:=(AK g 1)) f],by rwa[d.frozen (p:=(AK g 1)) f],y,A,λi hi=>?_⟩;have⟨b,q,z,t,E,D,l,m⟩:=s i hi;exact⟨b,q,z,t,E,by rwa[d.cell (p:=(AK b (q+i))) (by show b<_;omega)],l,m⟩
theorem Je{w:AU}(h:Kw w g P):g<w.heap.size:=by
 obtain⟨a,len,cap,p,d,_⟩:=h;unfold World.cell? at d;cases b:w.heap[g]? with
 |none=>simp[b]at d|some x=>exact(BF.1 b).1
theorem Iw{w:AU}{Q:Nat}(h:Kw w g P)(i:P<=Q):Kw w g Q:=by obtain⟨a,len,cap,p,e,f,d,j,b⟩:=h;exact⟨a,len,cap,p,e,f,d,BS,b⟩
theorem KW{w:AU}{b:Nat}(h:Kw w g P)(D:g<b)(v:AW):Kw (w.setCell ⟨b,o,none⟩ v) g P:=by obtain⟨a,len,cap,p,e,x,s,j,m,t⟩:=h;have B:¬g=b:=BS;have C:¬b=g:=BS;refine⟨a,len,cap,p,by simp[go_sem,e],by simp[go_sem,x],by simp[go_sem,s],j,m,λi hi=>?_⟩;have⟨c,q,z,d,A,y,l,f⟩:=t i hi;have E:¬c=b:=BS;have F:¬b=c:=BS;exact⟨c,q,z,d,A,by simp[go_sem,y],l,f⟩
theorem Dc{b:Nat}(h:c≠b):(W.setCell ⟨b,o,none⟩ v).cell? ⟨c,p,none⟩=W.cell? ⟨c,p,none⟩:=by have d:¬b=c:=λe=>h e.symm;simp[go_sem]
theorem Cj{b:Nat}(h:p≠o):(W.setCell ⟨b,o,none⟩ v).cell? ⟨b,p,none⟩=W.cell? ⟨b,p,none⟩:=by have d:¬o=p:=λe=>h e.symm;simp[go_sem]
theorem Du{b:Nat}(h:W.cell? ⟨b,o,none⟩=some u):(W.setCell ⟨b,o,none⟩ v).cell? ⟨b,o,none⟩=some v:=by simp[go_sem,h]
theorem Hu{b:Nat}:(W.setCell ⟨b,o,none⟩ v).frozen? ⟨c,p,none⟩=W.frozen? ⟨c,p,none⟩:=by simp[go_sem]
def Be{ob:Obj}(h:c<W.heap.size):(W.alloc ob).cell? (AK c p)=W.cell? (AK c p):=(Aa W ob).cell (p:=(AK c p)) h
def Hw{ob:Obj}(h:c<W.heap.size):(W.alloc ob).frozen? (AK c p)=W.frozen? (AK c p):=(Aa W ob).frozen (p:=(AK c p)) h
def OH{w:AU}(h:Kw w g P):Kw w.drew g P:=h
def CC{w:AU}(h:Kw w g P:=by(repeat(first|with_reducible assumption|with_reducible refine KW ?_ (by first|omega|(simp;omega)) _|with_reducible refine Gl ?_ _|with_reducible refine SE ?_ _|with_reducible refine OH ?_|exact Iw (by with_reducible assumption) (by omega)))):Kw w g P:=h
def Dl{a:Ab}:W.drew.cell? a=W.cell? a:=rfl
def CJ{a:Ab}{o:Option AW}(h:W.cell? a=o:=by(repeat(first|with_reducible assumption|with_reducible refine Dl.trans ?_|with_reducible refine(Dc (by omega)).trans ?_|with_reducible refine(Cj (by omega)).trans ?_|with_reducible refine(Be CV).trans ?_|with_reducible apply Du|(simp[go_sem];done)))):W.cell? a=o:=h
def Md{a:Ab}:W.drew.frozen? a=W.frozen? a:=rfl
def CS{a:Ab}{o:Bool}(h:W.frozen? a=o:=by(repeat(first|with_reducible assumption|with_reducible refine Md.tr ?_|with_reducible refine Hu.tr ?_|with_reducible refine(Hw CV).tr ?_|(simp[go_sem];done)))):W.frozen? a=o:=h
def gcA{w:AU}{b:Nat}{v:Option AW}(hg:w.grownBy W (some g))(h1:b<w.heap.size:=by first|with_reducible assumption|(simp;done)|(simp;omega))(h2:b≠g:=by omega)(h3:w.cell? (AK b o)=v:=by(repeat(first|with_reducible assumption|with_reducible refine Dl.tr ?_|with_reducible refine(Dc (by omega)).tr ?_|with_reducible refine(Cj (by omega)).tr ?_|with_reducible refine(Be CV).tr ?_|with_reducible apply Du|(simp[go_sem];done)))):W.cell? (AK b o)=v:=(Fb hg h1 h2).tr h3
def gfA{w:AU}{b:Nat}{v:Bool}(hg:w.grownBy W (some g))(h1:b<w.heap.size:=by first|with_reducible assumption|(simp;done)|(simp;omega))(h2:b≠g:=by omega)(h3:w.frozen? (AK b o)=v:=by(repeat(first|with_reducible assumption|with_reducible refine Md.tr ?_|with_reducible refine Hu.tr ?_|with_reducible refine(Hw CV).tr ?_|(simp[go_sem];done)))):W.frozen? (AK b o)=v:=(Fj hg h1 h2).tr h3
def ol{w:AU}{b:Nat}(d:g<b)(h:Kw w g P):Kw (w.setCell (AK b o) v) g P:=KW h d v
def B7{w:AU}(h:Kw w g P:=by(repeat(first|with_reducible assumption|with_reducible apply Gl|with_reducible apply SE|with_reducible apply OH|(with_reducible apply ol;first|omega|(simp;omega))))):Kw w g P:=h
def EU(W:AU)(b:Nat)(v0 v1:AW):Prop:=b<W.heap.size/\W.cell? (AK b 0)=some v0/\W.frozen? (AK b 0)=false/\W.cell? (AK b 1)=some v1/\W.frozen? (AK b 1)=false
def E2(W:AU)(b:Nat)(v0 v1 v2:AW):Prop:=b<W.heap.size/\W.cell? (AK b 0)=some v0/\W.frozen? (AK b 0)=false/\W.cell? (AK b 1)=some v1/\W.frozen? (AK b 1)=false/\W.cell? (AK b 2)=some v2/\W.frozen? (AK b 2)=false
def Dm(W:AU)(b:Nat)(v0 v1 v2 v3:AW):Prop:=b<W.heap.size/\W.cell? (AK b 0)=some v0/\W.frozen? (AK b 0)=false/\W.cell? (AK b 1)=some v1/\W.frozen? (AK b 1)=false/\W.cell? (AK b 2)=some v2/\W.frozen? (AK b 2)=false/\W.cell? (AK b 3)=some v3/\W.frozen? (AK b 3)=false
 abbrev A9 (W:Go.World)(b:Nat)(n:Stil.DK)(a:Option Go.Addr)(c:Nat)(e:Option Go.Addr)(d:Nat):Prop:=Dm W b (AB n.kind) (AB n.O.op) (AE a n.O.args.length c) (AE e n.K.length d)
def EB(W:AU)(b:Nat)(v0 v1 v2 v3 e d:AW):Prop:=b<W.heap.size/\W.cell? (AK b 0)=some v0/\W.frozen? (AK b 0)=false/\W.cell? (AK b 1)=some v1/\W.frozen? (AK b 1)=false/\W.cell? (AK b 2)=some v2/\W.frozen? (AK b 2)=false/\W.cell? (AK b 3)=some v3/\W.frozen? (AK b 3)=false/\W.cell? (AK b 4)=some e/\W.frozen? (AK b 4)=false/\W.cell? (AK b 5)=some d/\W.frozen? (AK b 5)=false
def M9{w:AU}{b:Nat}(h:w.grownBy W (some g))(d:b<w.heap.size):b<W.heap.size:=DO d h.size
def QbC(W:AU)(b i:Nat)(v:AW):Prop:=W.cell? (AK b i)=some v/\W.frozen? (AK b i)=false
def qbC{b i:Nat}(h:W.cell? (AK b i)=some v:=by(refine(Fb (by with_reducible assumption) CV (by omega)).tr ?_;exact CJ))(k:W.frozen? (AK b i)=false:=by(refine(Fj (by with_reducible assumption) CV (by omega)).tr ?_;exact CS)):QbC W b i v:=⟨h,k⟩
def qb2{b:Nat}{v0:AW}(hz:b<W.heap.size:=by(refine M9 (by with_reducible assumption) ?_;first|with_reducible assumption|(simp;done)|(simp;omega)))(h0:QbC W b 0 v0:=by exact qbC)(h1:QbC W b 1 v1:=by exact qbC):EU W b v0 v1:=⟨hz,h0.1,h0.2,h1.1,h1.2⟩
def qb3{b:Nat}{v0:AW}(hz:b<W.heap.size:=by(refine M9 (by with_reducible assumption) ?_;first|with_reducible assumption|(simp;done)|(simp;omega)))(h0:QbC W b 0 v0:=by exact qbC)(h1:QbC W b 1 v1:=by exact qbC)(h2:QbC W b 2 v2:=by exact qbC):E2 W b v0 v1 v2:=⟨hz,h0.1,h0.2,h1.1,h1.2,h2.1,h2.2⟩
def qb4{b:Nat}{v0:AW}(hz:b<W.heap.size:=by(refine M9 (by with_reducible assumption) ?_;first|with_reducible assumption|(simp;done)|(simp;omega)))(h0:QbC W b 0 v0:=by exact qbC)(h1:QbC W b 1 v1:=by exact qbC)(h2:QbC W b 2 v2:=by exact qbC)(h3:QbC W b 3 v3:=by exact qbC):Dm W b v0 v1 v2 v3:=⟨hz,h0.1,h0.2,h1.1,h1.2,h2.1,h2.2,h3.1,h3.2⟩
def qb6{b:Nat}{v0 v4 v5:AW}(hz:b<W.heap.size:=by(refine M9 (by with_reducible assumption) ?_;first|with_reducible assumption|(simp;done)|(simp;omega)))(h0:QbC W b 0 v0:=by exact qbC)(h1:QbC W b 1 v1:=by exact qbC)(h2:QbC W b 2 v2:=by exact qbC)(h3:QbC W b 3 v3:=by exact qbC)(h4:QbC W b 4 v4:=by exact qbC)(h5:QbC W b 5 v5:=by exact qbC):EB W b v0 v1 v2 v3 v4 v5:=⟨hz,h0.1,h0.2,h1.1,h1.2,h2.1,h2.2,h3.1,h3.2,h4.1,h4.2,h5.1,h5.2⟩
def QbD(W:AU)(b:Nat)(d:Stil.DR):Prop:=E2 W b (AB d.kind) (AB d.n) (AB d.p)
def qbD{b:Nat}{d:Stil.DR}(h:E2 W b (AB d.kind) (AB d.n) (AB d.p):=by exact qb3):QbD W b d:=h
def QbE(W:AU)(b:Nat):Prop:=EU W b (AB 0) AG
def qbE{b:Nat}(h:EU W b (AB 0) AG:=by exact qb2):QbE W b:=h
def JE(W:AU)(b:Nat):Prop:=Dm W b (AB 0) (AB 0) AG AG
def JS{b:Nat}(h:Dm W b (AB 0) (AB 0) AG AG:=by exact qb4):JE W b:=h
def Im(W:AU)(b:Nat):Prop:=EB W b (AB 0) (AB 0) AG AG AG AG
def JC{b:Nat}(h:EB W b (AB 0) (AB 0) AG AG AG AG:=by exact qb6):Im W b:=h
theorem X3(g P b cap:Nat)(l:ζ)(w:AU)(hr:Kw w g P)(y:P<=1000000000000)(d:KY w b 0 l)(m:b<w.heap.size)(A:b≠g)(C:1<=l.length)(E:l.length<=1000):
  Calls prog 44 #[AH g,AE (some (AK b 0)) l.length cap] w λe w'=>∃x:Int,e=.returned (AB x)/\x∈l/\Kw w' g (P+1)/\w.grownBy w' (some g):=by have z:=BZ d;clear d;go_enter func44,ntmps44;go_wp2_with(go_at_call 15;refine(E8 g P _ _ hr y BS BS).mo ?_;rintro e t⟨x,rfl,s,B,q,i⟩;obtain⟨j,rfl⟩:=Hh s;have f:j<l.l:=BS;have D:t.cell? (AK b j)=some (AB l[j]):=(by rw[Fb i m A];have:=z j f;rwa [EF]at this));go_ret;exact⟨_,rfl,DY f,q,i⟩
def Small(d:Stil.DR):Prop:=(-10000000000<=d.kind/\d.kind<=10000000000)/\(-10000000000<=d.n/\d.n<=10000000000)/\(-10000000000<=d.p/\d.p<=10000000000)
theorem Small.fits{d:Stil.DR}(h:Small d):d.fits:=by obtain⟨⟨a,b⟩,⟨c,d⟩,⟨e,f⟩⟩:=h;exact⟨⟨BS,BS⟩,⟨BS,BS⟩,⟨BS,BS⟩⟩
def VW{k n p:Int}(h:-10000000000<=k/\k<=10000000000/\-10000000000<=n/\n<=10000000000/\-10000000000<=p/\p<=10000000000):Small ⟨k,n,p⟩:=⟨⟨h.1,h.2.1⟩,⟨h.2.2.1,h.2.2.2.1⟩,⟨h.2.2.2.2.1,h.2.2.2.2.2⟩⟩
def ZX(k:Int):0<=Jb k/\Jb k<=64:=by
 unfold Jb;split
 .omega
 split
 .omega
 split
 .omega
 split<;>omega
def zla {p:Prop}(h:p:=by
 refine BH (by simp[results,results88,go_sem,q0,q1,q2];rfl) rfl ?_;try simp only[EN,FK,FM] at*
 exact⟨⟨_,_,_⟩,rfl,VW BS,CC,B0⟩):p:=h
theorem Pi(g P:Nat)(k:Int)(w:AU)(hr:Kw w g P)(I:P<=100000000000)(N:-1000000<=k)(L:k<=1000000):
  Calls prog 88 #[AH g,AB k] w λe w'=>∃d:Stil.DR,e=.returned (.agg #[AB d.kind,AB d.n,AB d.p])/\Small d/\Kw w' g (P+3)/\w.grownBy w' (some g):=by
 have K:=Je hr;have G:¬w.heap.size=g:=BS;have J:=ZX k;by_cases B:k=11
 .subst B;go_enter func88,ntmps88;go_wp2_with(go_at_call_of 44 (12:Nat);refine(X3 g _ _ _ [0,1,2,3,5,-1,-7,10,100,32767,-32768,1000] _ (Gl (Gl hr _) _) BS (Dh xAf) BU CY BU BU).mo ?_;rintro e f⟨x,rfl,D,j,t⟩;obtain⟨q,q0,l,q1,s,q2,m⟩:E2 f w.heap.size (AB 0) (AB 0) (AB 0):=qb3);all_goals exact zla
 by_cases C:k=12
 .subst C;go_enter func88,ntmps88;go_wp2_with(first|(go_at_call_of 44 (11:Nat);refine(X3 g _ _ _ [0,1,5,-5,25,-15,999999999,-999999999,3,1001,7] _ (Gl (Gl hr _) _) BS (Dh xAf) BU CY BU BU).mo ?_;rintro e f⟨x,rfl,D,j,t⟩;obtain⟨q,q0,l,q1,s,q2,m⟩:E2 f w.heap.size (AB 0) (AB 0) (AB 0):=qb3)|(go_at_call_of 15 (Value.int IntKind.i64 6);refine(E8 g _ _ _ (j) BS BS BS).mo ?_;rintro e f⟨x,rfl,y,z,j,t⟩;obtain⟨q,q0,l,q1,s,q2,m⟩:E2 f w.heap.size (AB 0) (AB 0) (AB 0):=qb3));all_goals exact zla
 by_cases A:k=13
 .subst A;go_enter func88,ntmps88;go_wp2_with((go_at_call_of 15 (Value.int IntKind.i64 4);refine(E8 g _ _ _ (Gl hr _) BS BS BS).mo ?_;rintro e f⟨x,rfl,y,z,j,t⟩;obtain⟨q,q0,l,q1,s,q2,m⟩:E2 f w.heap.size (AB 0) (AB 0) (AB 0):=qb3));all_goals exact zla
 have M:(k==11)=false:=by simpa using B
 have E:(k==12)=false:=by simpa using C
 have F:(k==13)=false:=by simpa using A
 go_enter func88,ntmps88;go_wp2_with(first|(go_at_call_of 15 (Value.int IntKind.i64 4);refine(E8 g _ _ _ (Gl hr _) BS BS BS).mo ?_;rintro e f⟨x,rfl,y,z,j,t⟩;obtain⟨q,q0,l,q1,s,q2,m⟩:E2 f w.heap.size (AB 0) (AB 0) (AB 0):=qb3)|(go_at_call_of 15 (Value.int IntKind.i64 6);refine(E8 g _ _ _ (j) BS BS BS).mo ?_;rintro e f⟨x,rfl,y,z,j,t⟩;obtain⟨q,q0,l,q1,s,q2,m⟩:E2 f w.heap.size (AB 0) (AB 0) (AB 0):=qb3)|(go_at_call_of 15 (Value.int IntKind.i64 (Jb k));refine(E8 g _ _ _ (j) BS BS BS).mo ?_;rintro e f⟨x,rfl,y,z,j,t⟩;obtain⟨q,q0,l,q1,s,q2,m⟩:E2 f w.heap.size (AB 0) (AB 0) (AB 0):=qb3)|(go_at_call 141;refine(Ya _ _).mo ?_;rintro e H⟨rfl,rfl⟩));all_goals exact zla
theorem xY(g P:Nat)(k n p:Int)(w:AU)(hr:Kw w g P)(Z:P<=100000000000)(M:Small ⟨k,n,p⟩):
  Calls prog 93 #[AH g,.agg #[AB k,AB n,AB p]] w λe w'=>∃d:Stil.DR,e=.returned (.agg #[AB d.kind,AB d.n,AB d.p])/\Small d/\Kw w' g (P+3)/\w.grownBy w' (some g):=by
 have hg:=Je hr;have N:=ZX k;obtain⟨⟨R,O⟩,⟨S,Q⟩,⟨K,J⟩⟩:=M;simp only at R O S Q K J;have⟨z,B⟩:=AA (Jb k);rw[<-B]at N;have U:=BZ B.symm;clear B;go_enter func93,ntmps93;go_wp2_with(first|(go_at_call_of 15 (Value.int IntKind.i64 6);refine(E8 g _ _ _ (Gl (Gl hr _) _) BS BS BS).mo ?_;rintro e f⟨x,rfl,L,V,j,I⟩;obtain⟨E,s,t,q1,F,G,C⟩:E2 f w.heap.size (AB k) (AB n) (AB p):=qb3;obtain⟨A,l,H,m,D,q,y⟩:E2 f (w.heap.size+1) (AB 0) (AB 0) (AB 0):=qb3)|(go_at_call_of 15 (Value.int IntKind.i64 16);refine(E8 g _ _ _ (j) BS BS BS).mo ?_;rintro e f⟨x,rfl,L,V,j,I⟩;obtain⟨E,s,t,q1,F,G,C⟩:E2 f w.heap.size (AB k) (AB n) (AB p):=qb3;obtain⟨A,l,H,m,D,q,y⟩:E2 f (w.heap.size+1) (AB 0) (AB 0) (AB 0):=qb3)|(go_at_call_of 44 (16:Nat);refine(X3 g _ _ _ [-1,4,5,15,16,31,32,63,64,255,32768,-32769,1000000000,-1000000000,20,10] _ (Gl j _) BS (Dh xAf) BU CY BU BU).mo ?_;rintro e f⟨x,rfl,T,j,I⟩;obtain⟨E,s,t,q1,F,G,C⟩:E2 f w.heap.size (AB k) (AB n) (AB p):=qb3;obtain⟨A,l,H,m,D,q,y⟩:E2 f (w.heap.size+1) (AB 0) (AB 0) (AB 0):=qb3)|(go_at_call_of 44 (5:Nat);refine(X3 g _ _ _ [-1,0,1,6,7] _ (Gl j _) BS (Dh xAf) BU CY BU BU).mo ?_;rintro e f⟨x,rfl,T,j,I⟩;obtain⟨E,s,t,q1,F,G,C⟩:E2 f w.heap.size (AB k) (AB n) (AB p):=qb3;obtain⟨A,l,H,m,D,q,y⟩:E2 f (w.heap.size+1) (AB 0) (AB 0) (AB 0):=qb3)|(go_at_call 141;refine(Ya _ _).mo ?_;rw[U.out];rintro e Y⟨rfl,rfl⟩));all_goals
  refine BH (by simp[results,results93,go_sem,l,m,q];rfl) rfl ?_;try simp only[EN,FK,FM] at*
  exact⟨⟨_,_,_⟩,rfl,VW BS,CC,B0⟩
def Ys(g P:Nat)(a:Stil.DR)(w:AU)(hr:Kw w g P)(f:P<=100000000000)(b:Small a):
  Calls prog 93 #[AH g,.agg #[AB a.kind,AB a.n,AB a.p]] w λe w'=>∃d:Stil.DR,e=.returned (.agg #[AB d.kind,AB d.n,AB d.p])/\Small d/\Kw w' g (P+3)/\w.grownBy w' (some g):=
 xY g P a.kind a.n a.p w hr f b
theorem nL(g P:Nat)(w:AU)(hr:Kw w g P)(C:P<=10000000000):
  Calls prog 87 #[AH g] w λe w'=>∃d:Stil.DR,e=.returned (.agg #[AB d.kind,AB d.n,AB d.p])/\Small d/\Kw w' g (P+4)/\w.grownBy w' (some g):=by have B:=Je hr;go_enter func87,ntmps87;go_wp2_with(first|(go_at_call_of 44 (9:Nat);refine(X3 g _ _ _ [1,1,2,3,3,4,6,7,8] _ (Gl (Gl hr _) _) BS (Dh xAf) BU CY BU BU).mono ?_;rintro e f⟨x,rfl,t,m,j⟩;simp only[EN,FK,FM]at t;obtain⟨s,l,z,q1,y,q,A⟩:E2 f w.heap.size (AB 0) (AB 0) (AB 0):=qb3)|(go_at_call 88;refine(Pi g _ x _ m BS BS BS).mono ?_;rintro e f⟨d,rfl,hd,m,j⟩;have s:w.heap.size<f.heap.size:=DO B5 j.size;have l:f.cell? (AL w 0)=some (AB 0):=xAc;have z:f.frozen? (AL w 0)=false:=xAd;have q1:f.cell? (AL w 1)=some (AB 0):=xAc;have y:f.frozen? (AL w 1)=false:=xAd;have q:f.cell? (AL w 2)=some (AB 0):=xAc;have A:f.frozen? (AL w 2)=false:=xAd));refine BH (v:=.agg #[AB d.kind,AB d.n,AB d.p]) (by simp[results,results87,go_sem,l,q1,q]) rfl ?_;exact⟨d,rfl,hd,CC,B0⟩
theorem Vk(g P:Nat)(w:AU)(hr:Kw w g P)(C:P<=10000000000):
  Calls prog 89 #[AH g] w λe w'=>∃d:Stil.DR,e=.returned (.agg #[AB d.kind,AB d.n,AB d.p])/\Small d/\Kw w' g (P+4)/\w.grownBy w' (some g):=by have B:=Je hr;go_enter func89,ntmps89;go_wp2_with(first|(go_at_call_of 44 (7:Nat);refine(X3 g _ _ _ [9,9,9,11,11,7,8] _ (Gl (Gl hr _) _) BS (Dh xAf) BU CY BU BU).mono ?_;rintro e f⟨x,rfl,t,m,j⟩;simp only[EN,FK,FM]at t;obtain⟨s,l,z,q1,y,q,A⟩:E2 f w.heap.size (AB 0) (AB 0) (AB 0):=qb3)|(go_at_call 88;refine(Pi g _ x _ m BS BS BS).mono ?_;rintro e f⟨d,rfl,hd,m,j⟩;have s:w.heap.size<f.heap.size:=DO B5 j.size;have l:f.cell? (AL w 0)=some (AB 0):=xAc;have z:f.frozen? (AL w 0)=false:=xAd;have q1:f.cell? (AL w 1)=some (AB 0):=xAc;have y:f.frozen? (AL w 1)=false:=xAd;have q:f.cell? (AL w 2)=some (AB 0):=xAc;have A:f.frozen? (AL w 2)=false:=xAd));refine BH (v:=.agg #[AB d.kind,AB d.n,AB d.p]) (by simp[results,results89,go_sem,l,q1,q]) rfl ?_;exact⟨d,rfl,hd,CC,B0⟩
theorem Y3(g P:Nat)(w:AU)(hr:Kw w g P)(C:P<=10000000000):
  Calls prog 90 #[AH g] w λe w'=>∃d:Stil.DR,e=.returned (.agg #[AB d.kind,AB d.n,AB d.p])/\Small d/\Kw w' g (P+4)/\w.grownBy w' (some g):=by have B:=Je hr;go_enter func90,ntmps90;go_wp2_with(first|(go_at_call_of 44 (5:Nat);refine(X3 g _ _ _ [10,10,10,12,13] _ (Gl (Gl hr _) _) BS (Dh (by simp[F5,go_sem])) BU CY BU BU).mono ?_;rintro e f⟨x,rfl,t,m,j⟩;simp only[EN,FK,FM]at t;obtain⟨s,l,z,q1,y,q,A⟩:E2 f w.heap.size (AB 0) (AB 0) (AB 0):=qb3)|(go_at_call 88;refine(Pi g _ x _ m BS BS BS).mono ?_;rintro e f⟨d,rfl,hd,m,j⟩;have s:w.heap.size<f.heap.size:=DO B5 j.size;have l:f.cell? (AL w 0)=some (AB 0):=(by rw[Fb j B5 BS];first|assumption|(simp[go_sem, *];done));have z:f.frozen? (AL w 0)=false:=(by rw[Fj j B5 BS];first|assumption|(simp[go_sem, *];done));have q1:f.cell? (AL w 1)=some (AB 0):=(by rw[Fb j B5 BS];first|assumption|(simp[go_sem, *];done));have y:f.frozen? (AL w 1)=false:=(by rw[Fj j B5 BS];first|assumption|(simp[go_sem, *];done));have q:f.cell? (AL w 2)=some (AB 0):=(by rw[Fb j B5 BS];first|assumption|(simp[go_sem, *];done));have A:f.frozen? (AL w 2)=false:=(by rw[Fj j B5 BS];first|assumption|(simp[go_sem, *];done))));refine BH (v:=.agg #[AB d.kind,AB d.n,AB d.p]) (by simp[results,results90,go_sem,l,q1,q]) rfl ?_;exact⟨d,rfl,hd,CC,B0⟩
theorem ff(g P:Nat)(w:AU)(hr:Kw w g P)(H:P<=10000000000):
  Calls prog 92 #[AH g] w λe w'=>∃d:Stil.DR,e=.returned (.agg #[AB d.kind,AB d.n,AB d.p])/\Small d/\Kw w' g (P+8)/\w.grownBy w' (some g):=by
 have L:=Je hr;go_enter func92,ntmps92;go_wp2_with(first|(go_at_call_of 15 (Value.int IntKind.i64 13);refine(E8 g _ _ _ B7 BS BS BS).mo ?_;rintro e j⟨x,rfl,D,E,z,A⟩;obtain⟨t,l,q,q1,y,m,s⟩:E2 j w.heap.size (AB 0) (AB 0) (AB 0):=qb3)|(go_at_call 88;refine(Pi g _ _ _ B7 BS BS BS).mo ?_;rintro e B⟨d,rfl,hd,z,A⟩;obtain⟨t,l,q,q1,y,m,s⟩:E2 B w.heap.size (AB 0) (AB 0) (AB 0):=qb3)|(go_at_call_of 15 (Value.int IntKind.i64 20);refine(E8 g _ _ _ B7 BS BS BS).mo ?_;rintro e j⟨x,rfl,D,E,z,A⟩;obtain⟨t,l,q,q1,y,m,s⟩:E2 j w.heap.size (AB 0) (AB 0) (AB 0):=qb3;obtain⟨I,F,M,K,J,N,G⟩:QbD j B.heap.size d:=qbD)|(go_at_call 93;refine(Ys g _ d _ B7 BS hd).mo ?_;rintro e j⟨f,rfl,C,z,A⟩;obtain⟨t,l,q,q1,y,m,s⟩:E2 j w.heap.size (AB 0) (AB 0) (AB 0):=qb3))
 .refine BH (v:=.agg #[AB f.kind,AB f.n,AB f.p]) (by simp[results,results92,go_sem,l,q1,m]) rfl ?_;exact⟨f,rfl,C,CC,B0⟩
 refine BH (v:=.agg #[AB d.kind,AB d.n,AB d.p]) (by simp[results,results92,go_sem,l,q1,m]) rfl ?_;exact⟨d,rfl,hd,CC,B0⟩
def Hl(w:AU)(g:Nat)(v:AW)(ds:Ψ):Prop:=∃a cap,v=AE a ds.length cap/\(ds.length<=cap/\(a=none->cap=0))/\∀i(h:i<ds.length),∃b o,a=some (AK b o)/\g<b/\b<w.heap.size/\Jr w b (o+i*3) ds[i]
theorem Hl.devs{w:AU}{ds:Ψ}(h:Hl w g v ds):Aq w v ds:=by obtain⟨a,cap,rfl,_,f⟩:=h;exact⟨a,cap,rfl,λi hi=>by have⟨b,o,d,_,e,j⟩:=f i hi;exact⟨b,o,d,e,j⟩⟩
theorem Hl.grown{w:AU}{e:Nat}{ds:Ψ}(h:Hl w e v ds)(hg:w.grownBy w' (some g))(x:g<=e):Hl w' e v ds:=by
 obtain⟨a,cap,rfl,s,m⟩:=h;refine⟨a,cap,rfl,s,λi hi=>?_⟩;have⟨b,o,j,l,d,f,q,t⟩:=m i hi;refine⟨b,o,j,l,DO d hg.size,?_,?_,?_⟩
 .rwa[Fb hg d BS]
 .rwa[Fb hg d BS]
 rwa[Fb hg d BS]
theorem Hl.mono{w:AU}{d hi:Nat}{ds:Ψ}(h:Hl w hi v ds)(hl:d<=hi):Hl w d v ds:=by obtain⟨a,cap,rfl,e,j⟩:=h;refine⟨a,cap,rfl,e,λi hi=>?_⟩;have⟨b,o,f,m,l⟩:=j i hi;exact⟨b,o,f,BS,l⟩
abbrev Hl.mo:=@Hl.mono
theorem Hl.set{w:AU}{d r:Nat}{ds:Ψ}(hr:r<=d)(h:Hl w d v ds):Hl (w.setCell (AK r o) u) d v ds:=by
 obtain⟨a,cap,rfl,s,l⟩:=h;refine⟨a,cap,rfl,s,λi hi=>?_⟩;have⟨b,q,f,j,t,e,m,x⟩:=l i hi;refine⟨b,q,f,j,by simpa using t,?_,?_,?_⟩
 .rwa[Dc BS]
 .rwa[Dc BS]
 rwa[Dc BS]
theorem Hl.alloc{w:AU}{e:Nat}{ds:Ψ}(h:Hl w e v ds)(ob:Obj):Hl (w.alloc ob) e v ds:=by
 obtain⟨a,cap,rfl,t,m⟩:=h;refine⟨a,cap,rfl,t,λi hi=>?_⟩;have⟨b,q,j,l,d,f,s,x⟩:=m i hi;refine⟨b,q,j,l,B1,?_,?_,?_⟩
 .rwa[Be d]
 .rwa[Be d]
 rwa[Be d]
def LX(e:Ending)(w w':AU)(g Q k:Nat):Prop:=∃(op:Int)(v:AW)(b:Ψ),e=.returned (.agg #[AB op,v])/\(-1000000<=op/\op<=1000000)/\Hl w' (w.heap.size - 1) v b/\(∀d∈b,Small d)/\b.length<=k/\Kw w' g Q/\w.grownBy w' (some g)
theorem all1{a:Stil.DR}(b:Small a):∀d∈[a],Small d:=by intro d hd;simp at hd;subst hd;exact b
theorem all2{a b:Stil.DR}(e:Small a)(f:Small b):∀d∈[a,b],Small d:=by intro d hd;simp at hd;rcases hd with rfl|rfl;exact e;exact f
theorem Baw{a b c:Stil.DR}(e:Small a)(h:Small b)(f:Small c):∀d∈[a,b,c],Small d:=by intro d hd;simp at hd;rcases hd with rfl|rfl|rfl;exact e;exact h;exact f
theorem Nb{b:Nat}(ds:Ψ)(cs:δ)(q:b=X.heap.size)(x:g<b)(j:cs.toList=Di ds)(hl:ds.length<=100):Hl (X.alloc (.cells cs 153)) g (AE (some (AK b 0)) ds.length ds.length) ds:=by
 subst q;have s:cs.size=ds.length*3:=by have:=congrArg List.length j;rw[Rw]at this;simpa using this
 have h:=World.ownsRow_lit (base:=X.heap.size) (e:=153) (size:=3) X cs ds.length (DN _) CH s;rw[j]at h;have⟨a,cap,f,m⟩:=Aq.of_owns h;simp only[BN]at f;obtain⟨rfl,_,rfl⟩:=f;refine⟨_,_,rfl,⟨DN _,λh=>by cases h⟩,λi hi=>?_⟩;have⟨b,o,d,l,t⟩:=m i hi;have w:b=X.heap.size:=by simp only[FC,Addr.mk.injEq]at d;exact d.1.symm
 exact⟨b,o,d,BS,l,t⟩
def Jx(w:AU)(b:Nat)(d:Stil.DR):Prop:=b<w.heap.size/\w.cell? (AK b 0)=some (AB d.kind)/\w.cell? (AK b 1)=some (AB d.n)/\w.cell? (AK b 2)=some (AB d.p)/\w.frozen? (AK b 0)=false/\w.frozen? (AK b 1)=false/\w.frozen? (AK b 2)=false
def CZ{b:Nat}{d:Stil.DR}(h:Jx W b d:=by refine⟨CV,CJ,CJ,CJ,CS,CS,CS⟩):Jx W b d:=h
def Zk(w:AU)(b:Nat)(op:Int)(v:AW):Prop:=b<w.heap.size/\w.cell? (AK b 0)=some (AB op)/\w.cell? (AK b 1)=some v/\w.frozen? (AK b 0)=false/\w.frozen? (AK b 1)=false
def CP{b:Nat}(h:Zk W b op v:=by refine⟨CV,CJ,CJ,CS,CS⟩):Zk W b op v:=h
def Zk.grown{w:AU}{b:Nat}(h:Zk w b op v)(hg:w.grownBy w' (some g))(e:b≠g):Zk w' b op v:=by
 obtain⟨d,i,j,l,f⟩:=h;refine⟨DO d hg.size,?_,?_,?_,?_⟩
 .rwa[Fb hg d e]
 .rwa[Fb hg d e]
 .rwa[Fj hg d e]
 rwa[Fj hg d e]
theorem Hl.setAt{w:AU}{r d l cap:Nat}{ds:Ψ}(f:r≠d)(h:Hl w g (AE (some (AK d l)) n cap) ds):Hl (w.setCell (AK r o) u) g (AE (some (AK d l)) n cap) ds:=by
 obtain⟨a,c,j,z,t⟩:=h;simp only[BN]at j;obtain⟨rfl,rfl,rfl⟩:=j;refine⟨_,_,rfl,z,λi hi=>?_⟩;have⟨b,q,e,s,A,m,x,B⟩:=t i hi;have y:b=d:=by simp only[FC,Addr.mk.injEq]at e;exact e.1.symm
 subst y;refine⟨b,q,e,s,by simpa using A,?_,?_,?_⟩
 .rwa[Dc (Ne.symm f)]
 .rwa[Dc (Ne.symm f)]
 rwa[Dc (Ne.symm f)]
def oj{e:AU}{d b:Nat}(ds:Ψ)(cs:δ)(j:(X.alloc (.cells cs 153)).grownBy e (some g))(i:g<=d)(l:b=X.heap.size)(f:d<b)(h:cs.toList=Di ds)(hl:ds.length<=100):Hl e d (AE (some (AK b 0)) ds.length ds.length) ds:=
 (Nb ds cs l f h hl).grown j i
theorem oe{w:AU}{cap:Nat}{a:Δ}{ds:Ψ}(k:Nat)(h:Hl w g (AE a n cap) ds)(y:k<=ds.length):Hl w g (AE a k cap) (ds.take k):=by obtain⟨x,c,d,m,l⟩:=h;simp only[BN]at d;obtain⟨rfl,rfl,rfl⟩:=d;have t:(ds.take k).length=k:=B1;refine⟨_,_,by rw[t],⟨BS,m.2⟩,λi hi=>?_⟩;have⟨b,q,f,j,s,e⟩:=l i BS;refine⟨b,q,f,j,s,?_⟩;rwa[List.getElem_take]
theorem Qs{w:AU}(h:Kw w g P)(hg:w.grownBy w' r)(hr:∀k,r=some k->g<k):Kw w' g P:=by
 have E:=Je h;obtain⟨a,len,cap,p,m,C,j,t,A,B⟩:=h;have d:∀b,b<=g->w'.heap[b]?=w.heap[b]?:=λb d=>hg.block b BS (λe=>by have:=hr b e.symm;omega);have f:∀b o,b<=g->w'.cell? (AK b o)=w.cell? (AK b o):=λb o h=>by unfold World.cell?;rw[d b h]
 refine⟨a,len,cap,p,by rwa[f _ _ (DN _)],by rwa[f _ _ (DN _)],by unfold World.frozen? at j⊢;rwa[d g (DN _)],t,A,λi hi=>?_⟩;have⟨b,q,z,l,D,x,y,s⟩:=B i hi;exact⟨b,q,z,l,D,by rwa[f _ _ BS],y,s⟩
def Zo{w b:AU}{s:ε}(h:w.grownBy a r)(k:a.grownBy b s)(i:∀j,s=some j->w.heap.size<=j):w.grownBy b r:=
 ⟨k.os.tr h.os,k.tape.tr h.tape,k.output.tr h.output,DU h.size k.size,λj d f=>(k.block j (DO d h.size) (λe=>by have:=i j e.symm;omega)).tr (h.block j d f)⟩
theorem UC{w:AU}{base:Nat}{ds:Ψ}(h:w.ownsRow base 153 3 v ds.length (Di ds))(hg:g<base):Hl w g v ds:=by
 have hd:=Aq.of_owns h;rcases h.2 with⟨j,z⟩|⟨b,cap,cur,d,A,B,t,_⟩
 .obtain⟨a,c,d,l⟩:=hd;rw[j]at d;simp only[BN]at d;obtain⟨rfl,s,rfl⟩:=d;exact⟨none,0,by rw[j,s],⟨BS,λ_=>rfl⟩,λi hi=>absurd hi BS⟩
 obtain⟨a,c,x,l⟩:=hd;have e:=d.symm.tr x;simp only[BN]at e;obtain⟨rfl,_,rfl⟩:=e;refine⟨_,cap,d,⟨t,λh=>by cases h⟩,λi hi=>?_⟩;have⟨m,o,f,q,y⟩:=l i hi;have:m=b:=by simp only[FC,Addr.mk.injEq]at f;exact f.1.symm
 exact⟨m,o,f,BS,q,y⟩
theorem eM{w:AU}{base:Nat}{ds:Ψ}(b:ds.length=n)(h:w.ownsRow base 153 3 v n (Di ds))(hg:g<base):Hl w g v ds:=by subst b;exact UC h hg
theorem UD{w:AU}{b cap:Nat}{ds:Ψ}(h:Hl w g (AE (some (AK b o)) n cap) ds):∀j u,(Di ds)[j]?=some u->w.cell? (((AK b o):Ab).add j)=some u:=by
 intro j u i;obtain⟨a,c,m,_,x⟩:=h;simp only[BN]at m;obtain⟨rfl,rfl,rfl⟩:=m;have B:j<ds.length*3:=by rw[<-Rw];exact(BO.1 i).1
 have⟨D,C,l,_,_,q,t,y⟩:=x (j / 3) BS;simp only[FC,Addr.mk.injEq,Hj]at l;obtain⟨rfl,rfl⟩:=l;have⟨z,s,A⟩:=Sr ds (j / 3) BS;rw[Addr.add_lit];have f:j % 3=0\/j % 3=1\/j % 3=2:=BS;rcases f with f|f|f
 .have e:j=j / 3*3:=by omega
  have d:o+j=o+j / 3*3:=BS;rwa[d,q,<-z,<-e]
 .have e:j=j / 3*3+1:=by omega
  have d:o+j=o+j / 3*3+1:=BS;rwa[d,t,<-s,<-e]
 have e:j=j / 3*3+2:=by omega
 have d:o+j=o+j / 3*3+2:=BS;rwa[d,y,<-A,<-e]
theorem Gn{w:AU}{base:Nat}{e:AZ}{size:Nat}{xs:Θ}(h:w.ownsRow base e size v n xs)(hg:w.grownBy w' (some g))(j:g<base):w'.ownsRow base e size v n xs:=by
 refine⟨h.1,?_⟩;rcases h.2 with f|⟨k,cap,cur,hv,i,b,d⟩
 .exact Or.inl f
 have:=(h.lt k yFd).2;exact Or.inr ⟨k,cap,cur,hv,i,by rwa[hg.block k this (by intro e;cases e;omega)],d⟩
theorem VR:∀(b:Ψ)(k:Nat)(d:Stil.DR),k<b.length->(((Di b).set (k*3) (AB d.kind)).set (k*3+1) (AB d.n)).set (k*3+2) (AB d.p)=Di (b.set k d)
 |[],k,d,h=>by simp at h
 |c::r,0,d,_=>rfl
 |c::r,k+1,d,h=>by
  have e:Di (c::r)=AB c.kind::AB c.n::AB c.p::Di r:=rfl;have f:Di ((c::r).set (k+1) d)=AB c.kind::AB c.n::AB c.p::Di (r.set k d):=rfl;have i:(k+1)*3=k*3+1+1+1:=BS
  rw[e,f,i,<-VR r k d C4];rfl
theorem ZW{w:AU}{base b cap:Nat}{ds:Ψ}(h:w.ownsRow base 153 3 (AE (some (AK b 0)) n cap) n (Di ds))(d:Stil.DR)(e:k<ds.length):
  (((w.setCell (AK b (k*3)) (AB d.kind)).setCell (AK b (k*3+1)) (AB d.n)).setCell (AK b (k*3+2)) (AB d.p)).ownsRow base 153 3 (AE (some (AK b 0)) n cap) n (Di (ds.set k d)):=by rw[<-VR ds k d e];exact(((h.stored (k*3) _).1.stored (k*3+1) _).1.stored (k*3+2) _).1
theorem OE{w:AU}{base b cap:Nat}{ds:Ψ}(h:w.ownsRow base 153 3 (AE (some (AK b 0)) ds.length cap) ds.length (Di ds))(l:k<ds.length):
  w.cell? (AK b (k*3))=some (AB ds[k].kind)/\w.cell? (AK b (k*3+1))=some (AB ds[k].n)/\w.cell? (AK b (k*3+2))=some (AB ds[k].p)/\w.frozen? (AK b (k*3))=false/\w.frozen? (AK b (k*3+1))=false/\w.frozen? (AK b (k*3+2))=false:=by have⟨g,c,e,_,_,_,d⟩:=Jg h BS;simp only[BN,FC,Addr.mk.injEq]at e;obtain⟨⟨rfl,_⟩,_⟩:=e;have⟨f,i,j⟩:=Sr ds k l;exact⟨d _ _ f,d _ _ i,d _ _ j,h.frozenAt _,h.frozenAt _,h.frozenAt _⟩
def rQ(w:AU)(g:Nat):Hl w g AG []:=⟨none,0,rfl,⟨DN _,λ_=>rfl⟩,λi hi=>by simp at hi⟩
theorem RI{ds:List Stil.DR}(h:∀d∈ds,Small d)(k:Nat)(d:Stil.DR)(hd:Small d):∀x∈ds.set k d,Small x:=λx e=>by
 rcases Bdx e with b|rfl
 .exact h x b
 .exact hd
theorem cH(g P:Nat)(op:Int)(v:Value)(ds:Ψ)(w:World)(hr:Kw w g P)(hP:P<=1000000000)(T:-1000000<=op/\op<=1000000)(hv:Hl w g v ds)(hs:∀d∈ds,Small d)(hl:ds.length<=50000):
  Calls prog 46 #[.pointer (some ⟨g,0,none⟩),.agg #[.int .i64 op,v]] w λe w'=>LX e w w' g (P+20) (ds.length+1):=by
 obtain⟨i0,hi,z,C,ab⟩:=info_parts mg;have hg:=Je hr;have HV:Hid (∀W,w.grownBy W (some g)->Hl W g v ds):=λW h=>hv.grown h (DN _);have K:Hid (∀d∈ds,Small d):=hs;obtain⟨a,cap,rfl,⟨aC,ao⟩,hx⟩:=hv;have HX:Hid (∀i(h:i<ds.length),∃b o,a=some ⟨b,o,none⟩/\g<b/\b<w.heap.size/\Jr w b (o+i*3) ds[i]):=hx;clear hx hs;go_enter func46,ntmps46;go_upto_region 1 with fail;go_cut [5] (λs5 wc=>∃b E,s5=.slice (some ⟨b,0,none⟩) ds.length E/\wc.ownsRow (w.heap.size+2) 153 3 (.slice (some ⟨b,0,none⟩) ds.length E) ds.length (Di ds)/\Kw wc g P/\w.grownBy wc (some g)/\Zk wc w.heap.size op (.slice a ds.length cap)/\Zk wc (w.heap.size+1) 0 (.slice none 0 0));case first=>
  cases a with
  |none=>(obtain rfl:ds=[]:=by cases ds with|nil=>rfl|cons d r=>obtain⟨b,o,h,_⟩:=HX 0 BU;cases h);obtain rfl:=ao rfl;go_wp2;go_meet;have s:=World.ownsRow_lit (base:=w.heap.size+2) (e:=153) (size:=3) ((w.alloc (.cells #[.int .i64 op,.slice none 0 0] 60)).alloc (.cells #[.int .i64 0,.slice none 0 0] 60)) #[] 0 BU CH rfl;exact⟨w.heap.size+1+1,0,rfl,by simpa[Di]using s,CC,B0,CP,CP⟩
  |some M=>have HN:Hid (∀W,w.grownBy W (some g)->∀j u,(Di ds)[j]?=some u->W.cell? (M.add j)=some u):=(by intro W hW j u G;by_cases hd:ds=[];{subst hd;simp[Di]at G};obtain⟨b,o,h,_⟩:=HX 0 (by cases ds with|nil=>exact absurd rfl hd|cons d r=>simp);cases h;exact UD (HV W hW) j u G);have s:=World.ownsRow_lit (base:=w.heap.size+2) (e:=153) (size:=3) ((w.alloc (.cells #[.int .i64 op,.slice (some M) ds.length cap] 60)).alloc (.cells #[.int .i64 0,.slice none 0 0] 60)) #[] 0 BU CH rfl;have aw:((((w.alloc (.cells #[.int .i64 op,.slice (some M) ds.length cap] 60)).alloc (.cells #[.int .i64 0,.slice none 0 0] 60)).alloc (.cells #[] 153))).ownsRow (w.heap.size+2) 153 3 (.slice (some ⟨w.heap.size+1+1,0,none⟩) 0 0) 0 []:=(by simpa using s);clear s;go_wp2_with(at_builtin;refine wpList_append_own _ rfl _ _ 58 rfl (w.heap.size+2) 153 i0 (.agg #[.int .i64 0,.int .i64 0,.int .i64 0]) 3 24 underlying58 hi z C ab rfl BX _ _ _ rfl aw M ds.length cap (Di ds) rfl (Rw _) (HN _ B0) (tP _) CH BS BU ?_);(intro v' w3 af ae ak;have O:((((w.alloc (.cells #[.int .i64 op,.slice (some M) ds.length cap] 60)).alloc (.cells #[.int .i64 0,.slice none 0 0] 60)).alloc (.cells #[] 153))).grownBy w3 (some (w.heap.size+1+1)):=ae;obtain⟨b,E,rfl⟩:∃b E,v'=.slice (some ⟨b,0,none⟩) ds.length E:=by rcases af.2 with⟨h0,h1⟩|⟨b,E,cur,h0,_⟩;{exact absurd h0 ak};exact⟨b,E,h0⟩);clear ae ak;go_wp2;go_meet;refine⟨b,E,rfl,af,Qs (Gl (Gl (Gl hr _) _) _) O yDd,Zo (Px (Px (Px (Le _ _) _) _) _) O yDd,Zk.grown ?_ O BS,Zk.grown ?_ O BS⟩;{exact CP};exact CP
 case rest=>
  obtain⟨b,E,rfl,N,B,ac,⟨ai,t,q1,y,A⟩,⟨au,l,m,D,F⟩⟩:=hcut;clear HV HX;have ar:w.heap.size+2<=b/\b<wc.heap.size:=N.lt b rfl;obtain⟨aD,aE⟩:=ar;go_upto_if 37 with(first|(go_at_call_of 15 (Value.int IntKind.i64 6);refine(E8 g _ _ _ B7 BS BS BS).mono ?_;rintro e w3⟨x,rfl,al,ax,B,Q⟩;obtain⟨z,t,y,q1,A⟩:EU w3 w.heap.size (.int .i64 op) (.slice a ds.length cap):=qb2;obtain⟨C,l,D,m,F⟩:QbE w3 ((w.heap.size+1)):=qbE)|(go_at_call_of 44 (10:Nat);refine(X3 g _ _ _ [-1,0,1,5,11,20,21,26,37,38] _ B7 BS (Dh xAf) BU CY BU BU).mono ?_;rintro e w4⟨aa,rfl,H,B,fU⟩;simp only[EN,FK,FM]at H;obtain⟨z,t,y,q1,A⟩:EU w4 w.heap.size (.int .i64 op) (.slice a ds.length cap):=qb2;obtain⟨C,l,D,m,F⟩:QbE w4 ((w.heap.size+1)):=qbE));{have s:=Gn ((Gn N Q BS).alloc _) fU BS;refine bodyPost_ret xAp rfl ?_;exact⟨_,_,ds,rfl,BS,UC (ownsRow_setCell_below (ownsRow_setCell_below s (EQ _) _) (EQ _) _) BS,K.out,BS,CC,B0⟩};{have s:=Gn N Q BS;go_region_law(first|(refine sK rfl _ _ 58 rfl (w.heap.size+2) 153 i0 (.agg #[.int .i64 0,.int .i64 0,.int .i64 0]) 3 24 underlying58 hi CB CB ab rfl BX _ _ _ rfl ((Gn s ⟨q.os,q.tape,q.output,q.size,q.block⟩ BS).alloc _) _ _ _ (Uz d) rfl rfl (Ub _ (Uz d) _ _ BU) (by intro u hu;simp[Uz]at hu;rcases hu with rfl|rfl|rfl<;>rfl) CH BS yBb ?_;intro v' I aj S;obtain⟨b6,ap,rfl,ay,aB,_,_⟩:=Jg aj BS;have aF:(J.alloc (.cells #[.int .i64 d.kind,.int .i64 d.n,.int .i64 d.p] 153)).grownBy I (some b):=S;obtain⟨z,t,y,q1,A⟩:EU I w.heap.size (.int .i64 op) (.slice a ds.length cap):=qb2;obtain⟨C,l,D,m,F⟩:QbE I ((w.heap.size+1)):=qbE)|(go_simp;go_at_call 92;refine(ff g _ _ B7 BS).mono ?_;rintro e J⟨d,rfl,hd,B,q⟩;have aA:w3.heap.size<=J.heap.size:=q.size;obtain⟨z,t,y,q1,A⟩:EU J w.heap.size (.int .i64 op) (.slice a ds.length cap):=qb2;obtain⟨C,l,D,m,F⟩:QbE J ((w.heap.size+1)):=qbE));(all_goals go_wp2);all_goals have bJ:=Qs (Gl B _) aF yDd;have aG:w.grownBy I (some g):=Zo (Px (E5 (E5 ac Q) ⟨q.os,q.tape,q.output,q.size,q.block⟩) _) aF yDd;have bH:I.ownsRow (w.heap.size+2) 153 3 (.slice (some ⟨b6,0,none⟩) (ds.length+1) ap) (ds.length+1) (Di (ds++[d])):=(by rw[si];exact aj);refine bodyPost_ret xAp rfl ?_;refine⟨_,_,ds++[d],rfl,T,eM (n:=ds.length+1) BU (ownsRow_setCell_below (ownsRow_setCell_below bH (EQ _) _) (EQ _) _) BS,?_,BU,CC,B0⟩;intro aa H;rcases List.mem_append.1 H with H|H;{exact K aa H};simp at H;subst H;exact hd};{refine bodyPost_ret xAp rfl ?_;exact⟨_,_,[],rfl,T,rQ _ _,BU,BU,CC,B0⟩};have s:=Gn N Q BS;have e0:(x==0)=false:=CB;have e1:(x==1)=false:=CB;have e2:(x==2)=false:=CB;rw[e0,e1,e2];go_cut [6] (λ_ wc=>∃L:Ψ,L.length=ds.length/\(∀d∈L,Small d)/\wc.ownsRow (w.heap.size+2) 153 3 (.slice (some ⟨b,0,none⟩) ds.length E) ds.length (Di L)/\Kw wc g (P+19)/\w.grownBy wc (some g)/\Zk wc w.heap.size op (.slice a ds.length cap)/\Zk wc (w.heap.size+1) 0 (.slice none 0 0));case first=>by_cases az:ds.length=0;{go_wp2;go_meet;exact⟨ds,rfl,K.out,s,CC,B0,CP,CP⟩};go_upto_if 53 with(first|(go_at_call_of 15 (ds.length:Nat);refine(E8 g _ _ _ B7 BS BS BS).mono ?_;rintro e J⟨aa,rfl,ai,au,B,q⟩;obtain⟨z,t,y,q1,A⟩:EU J w.heap.size (.int .i64 op) (.slice a ds.length cap):=qb2;obtain⟨C,l,D,m,F⟩:QbE J ((w.heap.size+1)):=qbE;obtain⟨j,rfl⟩:=Hh ai;have G:j<ds.length:=BS;have vO:=Gn s q BS;obtain⟨Y,Z,V,R,s1,s2⟩:=OE vO G)|(go_at_call 93;refine(Ys g _ ds[j] _ B7 BS (K _ (DY G))).mono ?_;rintro e I⟨d,rfl,hd,B,S⟩;have ag:=Gn vO S BS;obtain⟨Y,Z,V,R,s1,s2⟩:=OE ag G;obtain⟨z,t,y,q1,A⟩:EU I w.heap.size (.int .i64 op) (.slice a ds.length cap):=qb2;obtain⟨C,l,D,m,F⟩:QbE I ((w.heap.size+1)):=qbE)|(go_at_call_of 15 (Value.int IntKind.i64 2);refine(E8 g _ _ _ B7 BS BS BS).mono ?_;rintro e w7⟨x,rfl,al,ax,B,pF⟩;have U:=Gn (ZW ag d G) pF BS;have tu:j<(ds.set j d).length:=(by simpa using G);obtain⟨Y,Z,V,R,s1,s2⟩:=OE (by simpa using U) tu;obtain⟨z,t,y,q1,A⟩:EU w7 w.heap.size (.int .i64 op) (.slice a ds.length cap):=qb2;obtain⟨C,l,D,m,F⟩:QbE w7 ((w.heap.size+1)):=qbE));go_wp2_with((go_at_call 92;refine(ff g _ _ B7 BS).mono ?_;rintro e w8⟨f,rfl,hf,B,ug⟩;have ah:=Gn U ug BS;obtain⟨Y,Z,V,R,s1,s2⟩:=OE (by simpa using ah) tu;obtain⟨z,t,y,q1,A⟩:EU w8 w.heap.size (.int .i64 op) (.slice a ds.length cap):=qb2;obtain⟨C,l,D,m,F⟩:QbE w8 ((w.heap.size+1)):=qbE));{go_meet;exact⟨(ds.set j d).set j f,BU,RI (RI K _ _ hd) _ _ hf,ZW ah f tu,CC,B0,CP,CP⟩};go_meet;exact⟨ds.set j d,BU,RI K _ _ hd,U,CC,B0,CP,CP⟩
  case rest=>clear B t q1 l m y A D F;obtain⟨L,an,av,s,B,ac,⟨z,t,q1,y,A⟩,⟨C,l,m,D,F⟩⟩:=hcut;go_wp2;refine bodyPost_ret xAp rfl ?_;exact⟨_,_,L,rfl,T,eM an (ownsRow_setCell_below (ownsRow_setCell_below s (EQ _) _) (EQ _) _) BS,av,BS,CC,B0⟩
