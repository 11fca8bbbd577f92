import Derived.Test.YtgnkpbhknkinoaaGreatDoorGC
set_option linter.defProp false
set_option maxHeartbeats 4000000
set_option maxRecDepth 100000
namespace Go.Proofs.YtgnkpbhknkinoaaGreatDoor
open Tryz Stil Go.RowKit Go.Sort Go.BigFrame
variable {P c g k n o p:Nat}{W X a w':AU}{op:Int}{r:Option Nat}{u v v1 v2 v3:AW}
def Ku(w:World)(g P:Nat):Prop:=∃(a:Option Addr)(len cap p:Nat),w.cell? ⟨g,0,none⟩=some (.slice a len cap)/\w.cell? ⟨g,1,none⟩=some (.int .i64 p)/\w.frozen? ⟨g,1,none⟩=false/\p<=P/\len<=2000/\
 ∀i,i<len->∃b o z,a=some ⟨b,o,none⟩/\b<g/\w.cell? ⟨b,o+i,none⟩=some (.int .u8 z)/\0<=z/\z<256
theorem I5(w:World)(g o:Nat)(v:Value):w.grownBy (w.setCell ⟨g,o,none⟩ v) (some g):=by refine⟨rfl,rfl,rfl,BU,λk d b=>?_⟩;simp only[World.setCell,JK];rw[if_neg (λe=>b (by rw[e]))]
theorem SE{w:World}{a:Option Addr}{len cap:Nat}(l:w.cell? ⟨g,0,none⟩=some (.slice a len cap))(x:w.cell? ⟨g,1,none⟩=some (.int .i64 p))(e:w.frozen? ⟨g,1,none⟩=false)(B:p<=P)(s:len<=2000)
  (q:∀i,i<len->∃b o z,a=some ⟨b,o,none⟩/\b<g/\w.cell? ⟨b,o+i,none⟩=some (.int .u8 z)/\0<=z/\z<256):
  Ku (w.setCell ⟨g,1,none⟩ (.int .i64 ((p:Int)+1))) g (P+1)/\w.grownBy (w.setCell ⟨g,1,none⟩ (.int .i64 ((p:Int)+1))) (some g):=by
 refine⟨⟨a,len,cap,p+1,?_,?_,?_,BS,s,λi hi=>?_⟩,I5 _ _ _ _⟩
 .simp[go_sem,l]
 .simp[go_sem,x]
 .simp[go_sem,e]
 obtain⟨b,o,z,f,t,j,d,m⟩:=q i hi;have A:¬b=g:=BS;have y:¬g=b:=BS;exact⟨b,o,z,f,t,by simp[go_sem,j],d,m⟩
theorem oI(a b:Nat)(j:a<4611686018427387904)(i:b<4611686018427387904):∃m:Nat,bits .xor .i64 (a:Int) (b:Int)=(m:Int):=by
 have f:a % 2 ^ 64=a:=Nat.mod_eq_of_lt BS;have d:b % 2 ^ 64=b:=Nat.mod_eq_of_lt BS;have l:a ^^^ b<2 ^ 62:=Nat.xor_lt_two_pow (n:=62) BS BS;refine⟨a ^^^ b,?_⟩;have e:bits .xor .i64 (a:Int) (b:Int)=IntKind.i64.wrap ((a ^^^ b:Nat):Int):=by simp only[bits,BitVec.ofInt_natCast,BitVec.toNat_xor,BitVec.toNat_ofNat];rw[show IntKind.i64.bits=64 from rfl,f,d]
 rw[e,BK];omega
def Rr{w:AU}(h:Ku w g P)(n:Nat):Ku (w.drewN n) g P:=h
def grown_drewN{w:AU}(h:w.grownBy w' (some g))(n:Nat):w.grownBy (w'.drewN n) (some g):=⟨h.os,h.tape,h.output,h.size,h.block⟩
def Lc(w:AU)(r:Option Nat):w.grownBy w r:=⟨rfl,rfl,rfl,DK _,λ_ _ _=>rfl⟩
def Io{b c:AU}(h:a.grownBy b r)(k:b.grownBy c r):a.grownBy c r:=
 ⟨k.os.tr h.os,k.tape.tr h.tape,k.output.tr h.output,DR h.size k.size,λj e d=>(k.block j (DL e h.size) d).tr (h.block j e d)⟩
theorem grown_below{b:AU}(h:AO a b)(r:Option Nat):a.grownBy b r:=⟨h.os,h.tape,h.output,h.size,λk d _=>h.block k d⟩
theorem U8{b:AU}(h:a.grownBy b (some g))(hg:g<=a.heap.size):Below g a b:=⟨h.os,h.tape,h.output,h.size,λk d=>h.block k BS (by intro e;cases e;omega)⟩
theorem Ew(g P:Nat)(n:Int)(w:AU)(hr:Ku w g P)(V:P<=1000000000000)(ac:n<=1000000)(ad:-1000000<=n):
  Calls prog 10 #[AH g,AB n] w λe w'=>∃x:Int,e=.returned (AB x)/\0<=x/\(x<n\/x=0)/\Ku w' g (P+1)/\w.grownBy w' (some g):=by
 obtain⟨a,len,cap,p,A,C,l,j,B,d⟩:=hr;by_cases L:len=0
 .subst L;have f:=SE A C l j B d;clear d;go_enter func10,ntmps10;go_wp2;all_goals go_ret
  all_goals exact⟨0,rfl,BS,BS,f⟩
 by_cases K:n<1
 .have f:=SE A C l j B d;have R:((len:Int)==0)=false:=xAf;have Z:decide (n<1)=true:=by simpa using K
  clear d;go_enter func10,ntmps10;go_wp2;go_ret;exact⟨0,rfl,BS,BS,f⟩
 have R:((len:Int)==0)=false:=by rw[DV];omega
 have f:=SE A C l j B d;by_cases M:p<len
 .obtain⟨b,o,z,rfl,S,H,N,J⟩:=d p M;have I:0<=z % n/\z % n<n:=⟨Int.emod_nonneg _ BS,Int.emod_lt_of_pos _ BS⟩;clear d;go_enter func10,ntmps10;go_wp2;go_ret;exact⟨_,rfl,I.1,Or.inl I.2,f⟩
 obtain⟨b,o,z,rfl,S,H,N,J⟩:=d (p % len) (Nat.mod_lt _ BS);have⟨U,o',Q,G,_,T,aa,ag⟩:=d ((p*7+3) % len) (Nat.mod_lt _ BS);simp only[E9,Addr.mk.injEq,Hh]at G;obtain⟨rfl,rfl⟩:=G;clear d;have⟨q,i⟩:=AA (p % len);have⟨r,hr⟩:=AA ((p*7+3) % len);have⟨t,s⟩:=AA (p / len);have ab:q<len:=by rw[i];exact Nat.mod_lt _ BS
 have ah:r<len:=by rw[hr];exact Nat.mod_lt _ BS
 have ai:t<=p:=by rw[s];exact Nat.div_le_self _ _
 have af:(p:Int) % (len:Int)=q:=by rw[i];simp
 have ae:((p:Int)*7+3) % (len:Int)=r:=by rw[hr];simp
 have Y:(p:Int) / (len:Int)=t:=by rw[s];simp
 rw[<-i]at H;rw[<-hr]at T;clear i hr s;go_enter func10,ntmps10;go_wp2;go_quiet (fail);go_wp2;go_ret;obtain⟨y,F⟩:∃y:Nat,z*131+Q*1117+(p:Int)*29+(t:Int)*53=(y:Int):=G4 BS;have O:y<4611686018427387904:=BS;have⟨m,E⟩:=oI y (y / 64) O BS;have D:((y:Int) / 64)=((y / 64:Nat):Int):=BS;refine⟨_,rfl,?_,?_,Rr f.1 _,grown_drewN f.2 _⟩
 .rw[F,D,E];exact Int.tmod_nonneg _ BS
 left;rw[F,D,E];exact Int.tmod_lt_of_pos _ BS
theorem Ez{w:AU}{b:Nat}(h:w.grownBy w' (some g))(f:b<w.heap.size)(d:b≠g):w'.cell? (AK b o)=w.cell? (AK b o):=by unfold World.cell?;rw[h.block b f (by intro e;cases e;exact d rfl)]
theorem Ff{w:AU}{b:Nat}(h:w.grownBy w' (some g))(f:b<w.heap.size)(d:b≠g):w'.frozen? (AK b o)=w.frozen? (AK b o):=by unfold World.frozen?;rw[h.block b f (by intro e;cases e;exact d rfl)]
def Pm{w:AU}(h:w.grownBy a r)(o:Obj):w.grownBy (a.alloc o) r:=Io h (grown_below (Aa a o) r)
def qS{w:AU}(h:w.grownBy a r)(n:Nat):w.grownBy (a.drewN n) r:=⟨h.os,h.tape,h.output,h.size,h.block⟩
def sR{w:AU}(h:w.grownBy a r):w.grownBy a.drew r:=⟨h.os,h.tape,h.output,h.size,h.block⟩
theorem OD{w:AU}{p:Ab}(e:w.heap.size<=p.block)(h:w.grownBy a r)(v:AW):w.grownBy (a.setCell p v) r:=
 ⟨h.os,h.tape,h.output,by simpa using h.size,λk d b=>by
  rw[<-h.block k d b];simp only[World.setCell,JK]
  rw[BQ BS]⟩
def Eu{w b:AU}(h:w.grownBy a r)(k:a.grownBy b r):w.grownBy b r:=Io h k
def Br{w:AU}(h:w.grownBy W r:=by(repeat(first|with_reducible exact Lc _ _|with_reducible assumption|with_reducible refine OD (by first|exact DK _|(simp;done)|(simp;omega)|omega) ?_ _|with_reducible refine Pm ?_ _|with_reducible refine qS ?_ _|with_reducible refine sR ?_|with_reducible refine Eu ?_ (by with_reducible assumption)))):w.grownBy W r:=h
theorem Gg{w:AU}(h:Ku w g P)(o:Obj):Ku (w.alloc o) g P:=by
 obtain⟨a,len,cap,p,f,E,t,s,C,B⟩:=h;have e:g<w.heap.size:=by
  unfold World.cell? at f;cases j:w.heap[g]? with
  |none=>simp[j]at f|some x=>exact(BF.1 j).1
 have d:=Aa w o;refine⟨a,len,cap,p,by rwa[d.cell (p:=(AK g 0)) e],by rwa[d.cell (p:=(AK g 1)) e],by rwa[d.frozen (p:=(AK g 1)) e],s,C,λi hi=>?_⟩;have⟨b,q,z,l,D,A,y,m⟩:=B i hi;exact⟨b,q,z,l,D,by rwa[d.cell (p:=(AK b (q+i))) (by show b<_;omega)],y,m⟩
theorem Jb{w:AU}(h:Ku w g P):g<w.heap.size:=by
 obtain⟨a,len,cap,p,b,_⟩:=h;unfold World.cell? at b;cases d:w.heap[g]? with
 |none=>simp[d]at b|some x=>exact(BF.1 d).1
theorem Il{w:AU}{Q:Nat}(h:Ku w g P)(i:P<=Q):Ku w g Q:=by obtain⟨a,len,cap,p,d,e,b,j,f⟩:=h;exact⟨a,len,cap,p,d,e,b,BS,f⟩
theorem KP{w:World}{b:Nat}(h:Ku w g P)(E:g<b)(v:Value):Ku (w.setCell ⟨b,o,none⟩ v) g P:=by obtain⟨a,len,cap,p,t,A,m,j,x,f⟩:=h;have C:¬g=b:=BS;have B:¬b=g:=BS;refine⟨a,len,cap,p,by simp[go_sem,t],by simp[go_sem,A],by simp[go_sem,m],j,x,λi hi=>?_⟩;obtain⟨c,q,z,e,y,s,l,d⟩:=f i hi;have D:¬c=b:=BS;have F:¬b=c:=BS;exact⟨c,q,z,e,y,by simp[go_sem,s],l,d⟩
theorem C9{b:Nat}(h:c≠b):(W.setCell ⟨b,o,none⟩ v).cell? ⟨c,p,none⟩=W.cell? ⟨c,p,none⟩:=by have d:¬b=c:=λe=>h e.symm;simp[go_sem]
theorem Dl{b:Nat}(h:p≠o):(W.setCell ⟨b,o,none⟩ v).cell? ⟨b,p,none⟩=W.cell? ⟨b,p,none⟩:=by have d:¬o=p:=λe=>h e.symm;simp[go_sem]
theorem Ei{b:Nat}(h:W.cell? ⟨b,o,none⟩=some u):(W.setCell ⟨b,o,none⟩ v).cell? ⟨b,o,none⟩=some v:=by simp[go_sem,h]
theorem Oz{b:Nat}:(W.setCell ⟨b,o,none⟩ v).frozen? ⟨c,p,none⟩=W.frozen? ⟨c,p,none⟩:=by simp[go_sem]
def Bc{ob:Obj}(h:c<W.heap.size):(W.alloc ob).cell? (AK c p)=W.cell? (AK c p):=(Aa W ob).cell (p:=(AK c p)) h
def Hl{ob:Obj}(h:c<W.heap.size):(W.alloc ob).frozen? (AK c p)=W.frozen? (AK c p):=(Aa W ob).frozen (p:=(AK c p)) h
def OE{w:AU}(h:Ku w g P):Ku w.drew g P:=h
def CC{w:AU}(h:Ku w g P:=by(repeat(first|with_reducible assumption|with_reducible refine KP ?_ (by first|omega|(simp;omega)) _|with_reducible refine Gg ?_ _|with_reducible refine Rr ?_ _|with_reducible refine OE ?_|exact Il (by with_reducible assumption) (by omega)))):Ku w g P:=h
def Dj{a:Ab}:W.drew.cell? a=W.cell? a:=rfl
def CU{a:Addr}{o:Option Value}(h:W.cell? a=o:=by(repeat(first|with_reducible assumption|with_reducible refine Dj.trans ?_|with_reducible refine(C9 (by omega)).trans ?_|with_reducible refine(Dl (by omega)).trans ?_|with_reducible refine(Bc CN).trans ?_|with_reducible apply Ei|(simp[go_sem];done)))):W.cell? a=o:=h
def L9{a:Ab}:W.drew.frozen? a=W.frozen? a:=rfl
def ffA{a:Ab}{o:Bool}(h:W.frozen? a=o:=by(repeat(first|with_reducible assumption|with_reducible refine L9.tr ?_|with_reducible refine Oz.tr ?_|with_reducible refine(Hl CN).tr ?_|(simp[go_sem];done)))):W.frozen? a=o:=h
def gcA{w:AU}{b:Nat}{v:Option AW}(hg:w.grownBy W (some g))(h1:b<w.heap.size:=by first|with_reducible assumption|(simp;done)|(simp;omega))(h2:b≠g:=by omega)(h3:w.cell? (AK b o)=v:=by(repeat(first|with_reducible assumption|with_reducible refine Dj.tr ?_|with_reducible refine(C9 (by omega)).tr ?_|with_reducible refine(Dl (by omega)).tr ?_|with_reducible refine(Bc CN).tr ?_|with_reducible apply Ei|(simp[go_sem];done)))):W.cell? (AK b o)=v:=(Ez hg h1 h2).tr h3
def gfA{w:AU}{b:Nat}{v:Bool}(hg:w.grownBy W (some g))(h1:b<w.heap.size:=by first|with_reducible assumption|(simp;done)|(simp;omega))(h2:b≠g:=by omega)(h3:w.frozen? (AK b o)=v:=by(repeat(first|with_reducible assumption|with_reducible refine L9.tr ?_|with_reducible refine Oz.tr ?_|with_reducible refine(Hl CN).tr ?_|(simp[go_sem];done)))):W.frozen? (AK b o)=v:=(Ff hg h1 h2).tr h3
def mY{w:AU}{b:Nat}(d:g<b)(h:Ku w g P):Ku (w.setCell (AK b o) v) g P:=KP h d v
def B7{w:AU}(h:Ku w g P:=by(repeat(first|with_reducible assumption|with_reducible apply Gg|with_reducible apply Rr|with_reducible apply OE|(with_reducible apply mY;first|omega|(simp;omega))))):Ku w g P:=h
def E2(W:AU)(b:Nat)(v0 v1:AW):Prop:=b<W.heap.size/\W.cell? (AK b 0)=some v0/\W.frozen? (AK b 0)=false/\W.cell? (AK b 1)=some v1/\W.frozen? (AK b 1)=false
def EY(W:AU)(b:Nat)(v0 v1 v2:AW):Prop:=b<W.heap.size/\W.cell? (AK b 0)=some v0/\W.frozen? (AK b 0)=false/\W.cell? (AK b 1)=some v1/\W.frozen? (AK b 1)=false/\W.cell? (AK b 2)=some v2/\W.frozen? (AK b 2)=false
def Da(W:AU)(b:Nat)(v0 v1 v2 v3:AW):Prop:=b<W.heap.size/\W.cell? (AK b 0)=some v0/\W.frozen? (AK b 0)=false/\W.cell? (AK b 1)=some v1/\W.frozen? (AK b 1)=false/\W.cell? (AK b 2)=some v2/\W.frozen? (AK b 2)=false/\W.cell? (AK b 3)=some v3/\W.frozen? (AK b 3)=false
 abbrev A9 (W:Go.World)(b:Nat)(n:Stil.DI)(a:Option Go.Addr)(c:Nat)(e:Option Go.Addr)(d:Nat):Prop:=Da W b (AB n.kind) (AB n.O.op) (AE a n.O.args.length c) (AE e n.K.length d)
def D3(W:AU)(b:Nat)(v0 v1 v2 v3 e d:AW):Prop:=b<W.heap.size/\W.cell? (AK b 0)=some v0/\W.frozen? (AK b 0)=false/\W.cell? (AK b 1)=some v1/\W.frozen? (AK b 1)=false/\W.cell? (AK b 2)=some v2/\W.frozen? (AK b 2)=false/\W.cell? (AK b 3)=some v3/\W.frozen? (AK b 3)=false/\W.cell? (AK b 4)=some e/\W.frozen? (AK b 4)=false/\W.cell? (AK b 5)=some d/\W.frozen? (AK b 5)=false
def M6{w:AU}{b:Nat}(h:w.grownBy W (some g))(d:b<w.heap.size):b<W.heap.size:=DL d h.size
def QbC(W:AU)(b i:Nat)(v:AW):Prop:=W.cell? (AK b i)=some v/\W.frozen? (AK b i)=false
def qbC{b i:Nat}(h:W.cell? (AK b i)=some v:=by(refine(Ez (by with_reducible assumption) CN (by omega)).tr ?_;exact CU))(k:W.frozen? (AK b i)=false:=by(refine(Ff (by with_reducible assumption) CN (by omega)).tr ?_;exact ffA)):QbC W b i v:=⟨h,k⟩
def qb2{b:Nat}{v0:AW}(hz:b<W.heap.size:=by(refine M6 (by with_reducible assumption) ?_;first|with_reducible assumption|(simp;done)|(simp;omega)))(h0:QbC W b 0 v0:=by exact qbC)(h1:QbC W b 1 v1:=by exact qbC):E2 W b v0 v1:=⟨hz,h0.1,h0.2,h1.1,h1.2⟩
def qb3{b:Nat}{v0:AW}(hz:b<W.heap.size:=by(refine M6 (by with_reducible assumption) ?_;first|with_reducible assumption|(simp;done)|(simp;omega)))(h0:QbC W b 0 v0:=by exact qbC)(h1:QbC W b 1 v1:=by exact qbC)(h2:QbC W b 2 v2:=by exact qbC):EY W b v0 v1 v2:=⟨hz,h0.1,h0.2,h1.1,h1.2,h2.1,h2.2⟩
def qb4{b:Nat}{v0:AW}(hz:b<W.heap.size:=by(refine M6 (by with_reducible assumption) ?_;first|with_reducible assumption|(simp;done)|(simp;omega)))(h0:QbC W b 0 v0:=by exact qbC)(h1:QbC W b 1 v1:=by exact qbC)(h2:QbC W b 2 v2:=by exact qbC)(h3:QbC W b 3 v3:=by exact qbC):Da W b v0 v1 v2 v3:=⟨hz,h0.1,h0.2,h1.1,h1.2,h2.1,h2.2,h3.1,h3.2⟩
def qb6{b:Nat}{v0 v4 v5:AW}(hz:b<W.heap.size:=by(refine M6 (by with_reducible assumption) ?_;first|with_reducible assumption|(simp;done)|(simp;omega)))(h0:QbC W b 0 v0:=by exact qbC)(h1:QbC W b 1 v1:=by exact qbC)(h2:QbC W b 2 v2:=by exact qbC)(h3:QbC W b 3 v3:=by exact qbC)(h4:QbC W b 4 v4:=by exact qbC)(h5:QbC W b 5 v5:=by exact qbC):D3 W b v0 v1 v2 v3 v4 v5:=⟨hz,h0.1,h0.2,h1.1,h1.2,h2.1,h2.2,h3.1,h3.2,h4.1,h4.2,h5.1,h5.2⟩
def QbD(W:AU)(b:Nat)(d:Stil.DN):Prop:=EY W b (AB d.kind) (AB d.n) (AB d.p)
def qbD{b:Nat}{d:Stil.DN}(h:EY W b (AB d.kind) (AB d.n) (AB d.p):=by exact qb3):QbD W b d:=h
def QbE(W:AU)(b:Nat):Prop:=E2 W b (AB 0) AG
def qbE{b:Nat}(h:E2 W b (AB 0) AG:=by exact qb2):QbE W b:=h
def JB(W:AU)(b:Nat):Prop:=Da W b (AB 0) (AB 0) AG AG
def JM{b:Nat}(h:Da W b (AB 0) (AB 0) AG AG:=by exact qb4):JB W b:=h
def IW(W:AU)(b:Nat):Prop:=D3 W b (AB 0) (AB 0) AG AG AG AG
def I6{b:Nat}(h:D3 W b (AB 0) (AB 0) AG AG AG AG:=by exact qb6):IW W b:=h
theorem Xv(g P b cap:Nat)(l:List Int)(w:AU)(hr:Ku w g P)(y:P<=1000000000000)(i:KT w b 0 l)(s:b<w.heap.size)(A:b≠g)(E:1<=l.length)(B:l.length<=1000):
  Calls prog 35 #[AH g,AE (some (AK b 0)) l.length cap] w λe w'=>∃x:Int,e=.returned (AB x)/\x∈l/\Ku w' g (P+1)/\w.grownBy w' (some g):=by have z:=BX i;clear i;go_enter func35,ntmps35;go_wp2_with(go_at_call 10;refine(Ew g P _ _ hr y BS BS).mo ?_;rintro e t⟨x,rfl,q,D,m,d⟩;obtain⟨j,rfl⟩:=G4 q;have f:j<l.l:=BS;have C:t.cell? (AK b j)=some (AB l[j]):=(by rw[Ez d s A];have:=z j f;rwa [ED]at this));go_ret;exact⟨_,rfl,DW f,m,d⟩
def Small(d:Stil.DN):Prop:=(-10000000000<=d.kind/\d.kind<=10000000000)/\(-10000000000<=d.n/\d.n<=10000000000)/\(-10000000000<=d.p/\d.p<=10000000000)
theorem Small.fits{d:Stil.DN}(h:Small d):d.fits:=by obtain⟨⟨a,b⟩,⟨c,d⟩,⟨e,f⟩⟩:=h;exact⟨⟨BS,BS⟩,⟨BS,BS⟩,⟨BS,BS⟩⟩
def VD{k n p:Int}(h:-10000000000<=k/\k<=10000000000/\-10000000000<=n/\n<=10000000000/\-10000000000<=p/\p<=10000000000):Small ⟨k,n,p⟩:=⟨⟨h.1,h.2.1⟩,⟨h.2.2.1,h.2.2.2.1⟩,⟨h.2.2.2.2.1,h.2.2.2.2.2⟩⟩
def ZC(k:Int):0<=I7 k/\I7 k<=64:=by
 unfold I7;split
 .omega
 split
 .omega
 split
 .omega
 split<;>omega
def zla {p:Prop}(h:p:=by
 refine BH (by simp[results,results64,go_sem,q0,q1,q2];rfl) rfl ?_;try simp only[EK,FG,FH] at*
 exact⟨⟨_,_,_⟩,rfl,VD BS,CC,Br⟩):p:=h
theorem O9(g P:Nat)(k:Int)(w:World)(hr:Ku w g P)(I:P<=100000000000)(N:-1000000<=k)(G:k<=1000000):
  Calls prog 64 #[.pointer (some ⟨g,0,none⟩),.int .i64 k] w λe w'=>∃d:Stil.DN,e=.returned (.agg #[.int .i64 d.kind,.int .i64 d.n,.int .i64 d.p])/\Small d/\Ku w' g (P+3)/\w.grownBy w' (some g):=by
 have L:=Jb hr;have M:¬w.heap.size=g:=BS;have J:=ZC k;by_cases B:k=11
 .subst B;go_enter func64,ntmps64;go_wp2_with(go_at_call_of 35 (12:Nat);refine(Xv g _ _ _ [0,1,2,3,5,-1,-7,10,100,32767,-32768,1000] _ (Gg (Gg hr _) _) BS (Df (by simp[Fj,go_sem])) BU CX BU BU).mono ?_;rintro e f⟨x,rfl,D,j,s⟩;obtain⟨q,q0,m,q1,t,q2,l⟩:EY f w.heap.size (.int .i64 0) (.int .i64 0) (.int .i64 0):=qb3);all_goals exact zla
 by_cases C:k=12
 .subst C;go_enter func64,ntmps64;go_wp2_with(first|(go_at_call_of 35 (11:Nat);refine(Xv g _ _ _ [0,1,5,-5,25,-15,999999999,-999999999,3,1001,7] _ (Gg (Gg hr _) _) BS (Df (by simp[Fj,go_sem])) BU CX BU BU).mono ?_;rintro e f⟨x,rfl,D,j,s⟩;obtain⟨q,q0,m,q1,t,q2,l⟩:EY f w.heap.size (.int .i64 0) (.int .i64 0) (.int .i64 0):=qb3)|(go_at_call_of 10 (Value.int IntKind.i64 6);refine(Ew g _ _ _ (j) BS BS BS).mono ?_;rintro e f⟨x,rfl,y,z,j,s⟩;obtain⟨q,q0,m,q1,t,q2,l⟩:EY f w.heap.size (.int .i64 0) (.int .i64 0) (.int .i64 0):=qb3));all_goals exact zla
 by_cases A:k=13
 .subst A;go_enter func64,ntmps64;go_wp2_with((go_at_call_of 10 (Value.int IntKind.i64 4);refine(Ew g _ _ _ (Gg hr _) BS BS BS).mono ?_;rintro e f⟨x,rfl,y,z,j,s⟩;obtain⟨q,q0,m,q1,t,q2,l⟩:EY f w.heap.size (.int .i64 0) (.int .i64 0) (.int .i64 0):=qb3));all_goals exact zla
 have F:(k==11)=false:=by simpa using B
 have E:(k==12)=false:=by simpa using C
 have H:(k==13)=false:=by simpa using A
 go_enter func64,ntmps64;go_wp2_with(first|(go_at_call_of 10 (Value.int IntKind.i64 4);refine(Ew g _ _ _ (Gg hr _) BS BS BS).mono ?_;rintro e f⟨x,rfl,y,z,j,s⟩;obtain⟨q,q0,m,q1,t,q2,l⟩:EY f w.heap.size (.int .i64 0) (.int .i64 0) (.int .i64 0):=qb3)|(go_at_call_of 10 (Value.int IntKind.i64 6);refine(Ew g _ _ _ (j) BS BS BS).mono ?_;rintro e f⟨x,rfl,y,z,j,s⟩;obtain⟨q,q0,m,q1,t,q2,l⟩:EY f w.heap.size (.int .i64 0) (.int .i64 0) (.int .i64 0):=qb3)|(go_at_call_of 10 (Value.int IntKind.i64 (I7 k));refine(Ew g _ _ _ (j) BS BS BS).mono ?_;rintro e f⟨x,rfl,y,z,j,s⟩;obtain⟨q,q0,m,q1,t,q2,l⟩:EY f w.heap.size (.int .i64 0) (.int .i64 0) (.int .i64 0):=qb3)|(go_at_call 104;refine(X4 _ _).mono ?_;rintro e K⟨rfl,rfl⟩));all_goals exact zla
theorem um(g P:Nat)(k n p:Int)(w:AU)(hr:Ku w g P)(Y:P<=100000000000)(J:Small ⟨k,n,p⟩):
  Calls prog 69 #[AH g,.agg #[AB k,AB n,AB p]] w λe w'=>∃d:Stil.DN,e=.returned (.agg #[AB d.kind,AB d.n,AB d.p])/\Small d/\Ku w' g (P+3)/\w.grownBy w' (some g):=by
 have hg:=Jb hr;have N:=ZC k;obtain⟨⟨Q,T⟩,⟨R,V⟩,⟨U,S⟩⟩:=J;simp only at Q T R V U S;have⟨z,y⟩:=AA (I7 k);rw[<-y]at N;have M:=BX y.symm;clear y;go_enter func69,ntmps69;go_wp2_with(first|(go_at_call_of 10 (Value.int IntKind.i64 6);refine(Ew g _ _ _ (Gg (Gg hr _) _) BS BS BS).mo ?_;rintro e f⟨x,rfl,K,L,j,F⟩;obtain⟨E,C,A,q1,H,B,t⟩:EY f w.heap.size (AB k) (AB n) (AB p):=qb3;obtain⟨s,l,G,m,D,q,I⟩:EY f (w.heap.size+1) (AB 0) (AB 0) (AB 0):=qb3)|(go_at_call_of 10 (Value.int IntKind.i64 16);refine(Ew g _ _ _ (j) BS BS BS).mo ?_;rintro e f⟨x,rfl,K,L,j,F⟩;obtain⟨E,C,A,q1,H,B,t⟩:EY f w.heap.size (AB k) (AB n) (AB p):=qb3;obtain⟨s,l,G,m,D,q,I⟩:EY f (w.heap.size+1) (AB 0) (AB 0) (AB 0):=qb3)|(go_at_call_of 35 (16:Nat);refine(Xv g _ _ _ [-1,4,5,15,16,31,32,63,64,255,32768,-32769,1000000000,-1000000000,20,10] _ (Gg j _) BS (Df xAc) BU CX BU BU).mo ?_;rintro e f⟨x,rfl,O,j,F⟩;obtain⟨E,C,A,q1,H,B,t⟩:EY f w.heap.size (AB k) (AB n) (AB p):=qb3;obtain⟨s,l,G,m,D,q,I⟩:EY f (w.heap.size+1) (AB 0) (AB 0) (AB 0):=qb3)|(go_at_call_of 35 (5:Nat);refine(Xv g _ _ _ [-1,0,1,6,7] _ (Gg j _) BS (Df xAc) BU CX BU BU).mo ?_;rintro e f⟨x,rfl,O,j,F⟩;obtain⟨E,C,A,q1,H,B,t⟩:EY f w.heap.size (AB k) (AB n) (AB p):=qb3;obtain⟨s,l,G,m,D,q,I⟩:EY f (w.heap.size+1) (AB 0) (AB 0) (AB 0):=qb3)|(go_at_call 104;refine(X4 _ _).mo ?_;rw[M.out];rintro e Z⟨rfl,rfl⟩));all_goals
  refine BH (by simp[results,results69,go_sem,l,m,q];rfl) rfl ?_;try simp only[EK,FG,FH] at*
  exact⟨⟨_,_,_⟩,rfl,VD BS,CC,Br⟩
def YK(g P:Nat)(a:Stil.DN)(w:AU)(hr:Ku w g P)(b:P<=100000000000)(f:Small a):
  Calls prog 69 #[AH g,.agg #[AB a.kind,AB a.n,AB a.p]] w λe w'=>∃d:Stil.DN,e=.returned (.agg #[AB d.kind,AB d.n,AB d.p])/\Small d/\Ku w' g (P+3)/\w.grownBy w' (some g):=
 um g P a.kind a.n a.p w hr b f
theorem lG(g P:Nat)(w:AU)(hr:Ku w g P)(C:P<=10000000000):
  Calls prog 63 #[AH g] w λe w'=>∃d:Stil.DN,e=.returned (.agg #[AB d.kind,AB d.n,AB d.p])/\Small d/\Ku w' g (P+4)/\w.grownBy w' (some g):=by have B:=Jb hr;go_enter func63,ntmps63;go_wp2_with(first|(go_at_call_of 35 (9:Nat);refine(Xv g _ _ _ [1,1,2,3,3,4,6,7,8] _ (Gg (Gg hr _) _) BS (Df xAc) BU CX BU BU).mono ?_;rintro e f⟨x,rfl,z,q,j⟩;simp only[EK,FG,FH]at z;obtain⟨s,m,A,q1,y,l,t⟩:EY f w.heap.size (AB 0) (AB 0) (AB 0):=qb3)|(go_at_call 64;refine(O9 g _ x _ q BS BS BS).mono ?_;rintro e f⟨d,rfl,hd,q,j⟩;have s:w.heap.size<f.heap.size:=DL B5 j.size;have m:f.cell? (AL w 0)=some (AB 0):=xAa;have A:f.frozen? (AL w 0)=false:=xAb;have q1:f.cell? (AL w 1)=some (AB 0):=xAa;have y:f.frozen? (AL w 1)=false:=xAb;have l:f.cell? (AL w 2)=some (AB 0):=xAa;have t:f.frozen? (AL w 2)=false:=xAb));refine BH (v:=.agg #[AB d.kind,AB d.n,AB d.p]) (by simp[results,results63,go_sem,m,q1,l]) rfl ?_;exact⟨d,rfl,hd,CC,Br⟩
theorem Vf(g P:Nat)(w:AU)(hr:Ku w g P)(C:P<=10000000000):
  Calls prog 65 #[AH g] w λe w'=>∃d:Stil.DN,e=.returned (.agg #[AB d.kind,AB d.n,AB d.p])/\Small d/\Ku w' g (P+4)/\w.grownBy w' (some g):=by have B:=Jb hr;go_enter func65,ntmps65;go_wp2_with(first|(go_at_call_of 35 (7:Nat);refine(Xv g _ _ _ [9,9,9,11,11,7,8] _ (Gg (Gg hr _) _) BS (Df xAc) BU CX BU BU).mono ?_;rintro e f⟨x,rfl,z,q,j⟩;simp only[EK,FG,FH]at z;obtain⟨s,m,A,q1,y,l,t⟩:EY f w.heap.size (AB 0) (AB 0) (AB 0):=qb3)|(go_at_call 64;refine(O9 g _ x _ q BS BS BS).mono ?_;rintro e f⟨d,rfl,hd,q,j⟩;have s:w.heap.size<f.heap.size:=DL B5 j.size;have m:f.cell? (AL w 0)=some (AB 0):=xAa;have A:f.frozen? (AL w 0)=false:=xAb;have q1:f.cell? (AL w 1)=some (AB 0):=xAa;have y:f.frozen? (AL w 1)=false:=xAb;have l:f.cell? (AL w 2)=some (AB 0):=xAa;have t:f.frozen? (AL w 2)=false:=xAb));refine BH (v:=.agg #[AB d.kind,AB d.n,AB d.p]) (by simp[results,results65,go_sem,m,q1,l]) rfl ?_;exact⟨d,rfl,hd,CC,Br⟩
theorem Yw(g P:Nat)(w:World)(hr:Ku w g P)(C:P<=10000000000):
  Calls prog 66 #[.pointer (some ⟨g,0,none⟩)] w λe w'=>∃d:Stil.DN,e=.returned (.agg #[.int .i64 d.kind,.int .i64 d.n,.int .i64 d.p])/\Small d/\Ku w' g (P+4)/\w.grownBy w' (some g):=by have B:=Jb hr;go_enter func66,ntmps66;go_wp2_with(first|(go_at_call_of 35 (5:Nat);refine(Xv g _ _ _ [10,10,10,12,13] _ (Gg (Gg hr _) _) BS (Df (by simp[Fj,go_sem])) BU CX BU BU).mono ?_;rintro e f⟨x,rfl,z,q,j⟩;simp only[EK,FG,FH]at z;obtain⟨s,m,A,q1,y,l,t⟩:EY f w.heap.size (.int .i64 0) (.int .i64 0) (.int .i64 0):=qb3)|(go_at_call 64;refine(O9 g _ x _ q BS BS BS).mono ?_;rintro e f⟨d,rfl,hd,q,j⟩;have s:w.heap.size<f.heap.size:=DL B5 j.size;have m:f.cell? ⟨w.heap.size,0,none⟩=some (.int .i64 0):=(by rw[Ez j B5 BS];first|assumption|(simp[go_sem, *];done));have A:f.frozen? ⟨w.heap.size,0,none⟩=false:=(by rw[Ff j B5 BS];first|assumption|(simp[go_sem, *];done));have q1:f.cell? ⟨w.heap.size,1,none⟩=some (.int .i64 0):=(by rw[Ez j B5 BS];first|assumption|(simp[go_sem, *];done));have y:f.frozen? ⟨w.heap.size,1,none⟩=false:=(by rw[Ff j B5 BS];first|assumption|(simp[go_sem, *];done));have l:f.cell? ⟨w.heap.size,2,none⟩=some (.int .i64 0):=(by rw[Ez j B5 BS];first|assumption|(simp[go_sem, *];done));have t:f.frozen? ⟨w.heap.size,2,none⟩=false:=(by rw[Ff j B5 BS];first|assumption|(simp[go_sem, *];done))));refine bodyPost_ret (v:=.agg #[.int .i64 d.kind,.int .i64 d.n,.int .i64 d.p]) (by simp[results,results66,go_sem,m,q1,l]) rfl ?_;exact⟨d,rfl,hd,CC,Br⟩
theorem eY(g P:Nat)(w:AU)(hr:Ku w g P)(H:P<=10000000000):
  Calls prog 68 #[AH g] w λe w'=>∃d:Stil.DN,e=.returned (.agg #[AB d.kind,AB d.n,AB d.p])/\Small d/\Ku w' g (P+8)/\w.grownBy w' (some g):=by
 have J:=Jb hr;go_enter func68,ntmps68;go_wp2_with(first|(go_at_call_of 10 (Value.int IntKind.i64 13);refine(Ew g _ _ _ B7 BS BS BS).mo ?_;rintro e j⟨x,rfl,C,D,t,z⟩;obtain⟨y,m,s,q1,A,l,q⟩:EY j w.heap.size (AB 0) (AB 0) (AB 0):=qb3)|(go_at_call 64;refine(O9 g _ _ _ B7 BS BS BS).mo ?_;rintro e B⟨d,rfl,hd,t,z⟩;obtain⟨y,m,s,q1,A,l,q⟩:EY B w.heap.size (AB 0) (AB 0) (AB 0):=qb3)|(go_at_call_of 10 (Value.int IntKind.i64 20);refine(Ew g _ _ _ B7 BS BS BS).mo ?_;rintro e j⟨x,rfl,C,D,t,z⟩;obtain⟨y,m,s,q1,A,l,q⟩:EY j w.heap.size (AB 0) (AB 0) (AB 0):=qb3;obtain⟨G,F,L,K,I,N,M⟩:QbD j B.heap.size d:=qbD)|(go_at_call 69;refine(YK g _ d _ B7 BS hd).mo ?_;rintro e j⟨f,rfl,E,t,z⟩;obtain⟨y,m,s,q1,A,l,q⟩:EY j w.heap.size (AB 0) (AB 0) (AB 0):=qb3))
 .refine BH (v:=.agg #[AB f.kind,AB f.n,AB f.p]) (by simp[results,results68,go_sem,m,q1,l]) rfl ?_;exact⟨f,rfl,E,CC,Br⟩
 refine BH (v:=.agg #[AB d.kind,AB d.n,AB d.p]) (by simp[results,results68,go_sem,m,q1,l]) rfl ?_;exact⟨d,rfl,hd,CC,Br⟩
def G8(w:AU)(g:Nat)(v:AW)(ds:List Stil.DN):Prop:=∃a cap,v=AE a ds.length cap/\(ds.length<=cap/\(a=none->cap=0))/\∀i(h:i<ds.length),∃b o,a=some (AK b o)/\g<b/\b<w.heap.size/\J3 w b (o+i*3) ds[i]
theorem G8.devs{w:AU}{ds:List Stil.DN}(h:G8 w g v ds):Ar w v ds:=by obtain⟨a,cap,rfl,_,f⟩:=h;exact⟨a,cap,rfl,λi hi=>by have⟨b,o,d,_,e,j⟩:=f i hi;exact⟨b,o,d,e,j⟩⟩
theorem G8.grown{w:AU}{e:Nat}{ds:List Stil.DN}(h:G8 w e v ds)(hg:w.grownBy w' (some g))(x:g<=e):G8 w' e v ds:=by
 obtain⟨a,cap,rfl,j,q⟩:=h;refine⟨a,cap,rfl,j,λi hi=>?_⟩;have⟨b,o,f,m,d,s,t,l⟩:=q i hi;refine⟨b,o,f,m,DL d hg.size,?_,?_,?_⟩
 .rwa[Ez hg d BS]
 .rwa[Ez hg d BS]
 rwa[Ez hg d BS]
theorem G8.mono{w:AU}{d hi:Nat}{ds:List Stil.DN}(h:G8 w hi v ds)(hl:d<=hi):G8 w d v ds:=by obtain⟨a,cap,rfl,j,f⟩:=h;refine⟨a,cap,rfl,j,λi hi=>?_⟩;have⟨b,o,e,m,l⟩:=f i hi;exact⟨b,o,e,BS,l⟩
abbrev G8.mo:=@G8.mono
theorem G8.set{w:AU}{d r:Nat}{ds:List Stil.DN}(hr:r<=d)(h:G8 w d v ds):G8 (w.setCell (AK r o) u) d v ds:=by
 obtain⟨a,cap,rfl,f,s⟩:=h;refine⟨a,cap,rfl,f,λi hi=>?_⟩;have⟨b,q,e,m,j,t,x,l⟩:=s i hi;refine⟨b,q,e,m,by simpa using j,?_,?_,?_⟩
 .rwa[C9 BS]
 .rwa[C9 BS]
 rwa[C9 BS]
theorem G8.alloc{w:AU}{e:Nat}{ds:List Stil.DN}(h:G8 w e v ds)(ob:Obj):G8 (w.alloc ob) e v ds:=by
 obtain⟨a,cap,rfl,j,s⟩:=h;refine⟨a,cap,rfl,j,λi hi=>?_⟩;have⟨b,q,f,m,d,t,x,l⟩:=s i hi;refine⟨b,q,f,m,Bw,?_,?_,?_⟩
 .rwa[Bc d]
 .rwa[Bc d]
 rwa[Bc d]
def LQ(e:Ending)(w w':AU)(g Q k:Nat):Prop:=∃(op:Int)(v:AW)(b:List Stil.DN),e=.returned (.agg #[AB op,v])/\(-1000000<=op/\op<=1000000)/\G8 w' (w.heap.size - 1) v b/\(∀d∈b,Small d)/\b.length<=k/\Ku w' g Q/\w.grownBy w' (some g)
theorem all1{a:Stil.DN}(b:Small a):∀d∈[a],Small d:=by intro d hd;simp at hd;subst hd;exact b
theorem all2{a b:Stil.DN}(f:Small a)(e:Small b):∀d∈[a,b],Small d:=by intro d hd;simp at hd;rcases hd with rfl|rfl;exact f;exact e
theorem pT{a b c:Stil.DN}(f:Small a)(e:Small b)(h:Small c):∀d∈[a,b,c],Small d:=by intro d hd;simp at hd;rcases hd with rfl|rfl|rfl;exact f;exact e;exact h
theorem Me{b:Nat}(ds:List Stil.DN)(cs:Array AW)(s:b=X.heap.size)(x:g<b)(j:cs.toList=Dh ds)(hl:ds.length<=100):G8 (X.alloc (.cells cs 111)) g (AE (some (AK b 0)) ds.length ds.length) ds:=by
 subst s;have m:cs.size=ds.length*3:=by have:=congrArg List.length j;rw[Rq]at this;simpa using this
 have h:=World.ownsRow_lit (base:=X.heap.size) (e:=111) (size:=3) X cs ds.length (DK _) CH m;rw[j]at h;have⟨a,cap,f,t⟩:=Ar.of_owns h;simp only[BN]at f;obtain⟨rfl,_,rfl⟩:=f;refine⟨_,_,rfl,⟨DK _,λh=>by cases h⟩,λi hi=>?_⟩;have⟨b,o,d,q,l⟩:=t i hi;have w:b=X.heap.size:=by simp only[E9,Addr.mk.injEq]at d;exact d.1.symm
 exact⟨b,o,d,BS,q,l⟩
def JV(w:AU)(b:Nat)(d:Stil.DN):Prop:=b<w.heap.size/\w.cell? (AK b 0)=some (AB d.kind)/\w.cell? (AK b 1)=some (AB d.n)/\w.cell? (AK b 2)=some (AB d.p)/\w.frozen? (AK b 0)=false/\w.frozen? (AK b 1)=false/\w.frozen? (AK b 2)=false
def CY{b:Nat}{d:Stil.DN}(h:JV W b d:=by refine⟨CN,?_,?_,?_,?_,?_,?_⟩<;>first|(exact CU;done)|(repeat(first|with_reducible assumption|with_reducible refine L9.tr ?_|with_reducible refine Oz.tr ?_|with_reducible refine(Hl CN).tr ?_|(simp[go_sem];done)))):JV W b d:=h
def Zd(w:AU)(b:Nat)(op:Int)(v:AW):Prop:=b<w.heap.size/\w.cell? (AK b 0)=some (AB op)/\w.cell? (AK b 1)=some v/\w.frozen? (AK b 0)=false/\w.frozen? (AK b 1)=false
def CP{b:Nat}(h:Zd W b op v:=by refine⟨CN,?_,?_,?_,?_⟩<;>first|(exact CU;done)|(repeat(first|with_reducible assumption|with_reducible refine L9.tr ?_|with_reducible refine Oz.tr ?_|with_reducible refine(Hl CN).tr ?_|(simp[go_sem];done)))):Zd W b op v:=h
def Zd.grown{w:AU}{b:Nat}(h:Zd w b op v)(hg:w.grownBy w' (some g))(e:b≠g):Zd w' b op v:=by
 obtain⟨d,f,i,l,j⟩:=h;refine⟨DL d hg.size,?_,?_,?_,?_⟩
 .rwa[Ez hg d e]
 .rwa[Ez hg d e]
 .rwa[Ff hg d e]
 rwa[Ff hg d e]
theorem G8.setAt{w:AU}{r d l cap:Nat}{ds:List Stil.DN}(f:r≠d)(h:G8 w g (AE (some (AK d l)) n cap) ds):G8 (w.setCell (AK r o) u) g (AE (some (AK d l)) n cap) ds:=by
 obtain⟨a,c,j,m,z⟩:=h;simp only[BN]at j;obtain⟨rfl,rfl,rfl⟩:=j;refine⟨_,_,rfl,m,λi hi=>?_⟩;have⟨b,q,e,x,s,A,B,t⟩:=z i hi;have y:b=d:=by simp only[E9,Addr.mk.injEq]at e;exact e.1.symm
 subst y;refine⟨b,q,e,x,by simpa using s,?_,?_,?_⟩
 .rwa[C9 (Ne.symm f)]
 .rwa[C9 (Ne.symm f)]
 rwa[C9 (Ne.symm f)]
def mM{e:AU}{d b:Nat}(ds:List Stil.DN)(cs:Array AW)(j:(X.alloc (.cells cs 111)).grownBy e (some g))(f:g<=d)(i:b=X.heap.size)(l:d<b)(h:cs.toList=Dh ds)(hl:ds.length<=100):G8 e d (AE (some (AK b 0)) ds.length ds.length) ds:=
 (Me ds cs i l h hl).grown j f
theorem mL{w:AU}{cap:Nat}{a:Option Ab}{ds:List Stil.DN}(k:Nat)(h:G8 w g (AE a n cap) ds)(x:k<=ds.length):G8 w g (AE a k cap) (ds.take k):=by obtain⟨y,c,d,j,s⟩:=h;simp only[BN]at d;obtain⟨rfl,rfl,rfl⟩:=d;have l:(ds.take k).length=k:=Bw;refine⟨_,_,by rw[l],⟨BS,j.2⟩,λi hi=>?_⟩;have⟨b,q,e,m,f,t⟩:=s i BS;refine⟨b,q,e,m,f,?_⟩;rwa[List.getElem_take]
theorem Qo{w:AU}(h:Ku w g P)(hg:w.grownBy w' r)(hr:∀k,r=some k->g<k):Ku w' g P:=by
 have E:=Jb h;obtain⟨a,len,cap,p,A,D,j,t,B,s⟩:=h;have f:∀b,b<=g->w'.heap[b]?=w.heap[b]?:=λb f=>hg.block b BS (λe=>by have:=hr b e.symm;omega);have d:∀b o,b<=g->w'.cell? (AK b o)=w.cell? (AK b o):=λb o h=>by unfold World.cell?;rw[f b h]
 refine⟨a,len,cap,p,by rwa[d _ _ (DK _)],by rwa[d _ _ (DK _)],by unfold World.frozen? at j⊢;rwa[f g (DK _)],t,B,λi hi=>?_⟩;have⟨b,q,z,m,C,y,x,l⟩:=s i hi;exact⟨b,q,z,m,C,by rwa[d _ _ BS],x,l⟩
def JE{w b:AU}{s:Option Nat}(h:w.grownBy a r)(k:a.grownBy b s)(i:∀j,s=some j->w.heap.size<=j):w.grownBy b r:=
 ⟨k.os.tr h.os,k.tape.tr h.tape,k.output.tr h.output,DR h.size k.size,λj d f=>(k.block j (DL d h.size) (λe=>by have:=i j e.symm;omega)).tr (h.block j d f)⟩
theorem TL{w:AU}{base:Nat}{ds:List Stil.DN}(h:w.ownsRow base 111 3 v ds.length (Dh ds))(hg:g<base):G8 w g v ds:=by
 have hd:=Ar.of_owns h;rcases h.2 with⟨j,z⟩|⟨b,cap,cur,d,B,A,x,_⟩
 .obtain⟨a,c,d,m⟩:=hd;rw[j]at d;simp only[BN]at d;obtain⟨rfl,y,rfl⟩:=d;exact⟨none,0,by rw[j,y],⟨BS,λ_=>rfl⟩,λi hi=>absurd hi BS⟩
 obtain⟨a,c,t,m⟩:=hd;have e:=d.symm.tr t;simp only[BN]at e;obtain⟨rfl,_,rfl⟩:=e;refine⟨_,cap,d,⟨x,λh=>by cases h⟩,λi hi=>?_⟩;have⟨l,o,f,s,q⟩:=m i hi;have:l=b:=by simp only[E9,Addr.mk.injEq]at f;exact f.1.symm
 exact⟨l,o,f,BS,s,q⟩
theorem eN{w:AU}{base:Nat}{ds:List Stil.DN}(b:ds.length=n)(h:w.ownsRow base 111 3 v n (Dh ds))(hg:g<base):G8 w g v ds:=by subst b;exact TL h hg
theorem TM{w:AU}{b cap:Nat}{ds:List Stil.DN}(h:G8 w g (AE (some (AK b o)) n cap) ds):∀j u,(Dh ds)[j]?=some u->w.cell? (((AK b o):Ab).add j)=some u:=by
 intro j u i;obtain⟨a,c,l,_,s⟩:=h;simp only[BN]at l;obtain⟨rfl,rfl,rfl⟩:=l;have D:j<ds.length*3:=by rw[<-Rq];exact(BO.1 i).1
 have⟨B,C,m,_,_,x,q,A⟩:=s (j / 3) BS;simp only[E9,Addr.mk.injEq,Hh]at m;obtain⟨rfl,rfl⟩:=m;have⟨t,z,y⟩:=Rz ds (j / 3) BS;rw[Addr.add_lit];have f:j % 3=0\/j % 3=1\/j % 3=2:=BS;rcases f with f|f|f
 .have e:j=j / 3*3:=by omega
  have d:o+j=o+j / 3*3:=BS;rwa[d,x,<-t,<-e]
 .have e:j=j / 3*3+1:=by omega
  have d:o+j=o+j / 3*3+1:=BS;rwa[d,q,<-z,<-e]
 have e:j=j / 3*3+2:=by omega
 have d:o+j=o+j / 3*3+2:=BS;rwa[d,A,<-y,<-e]
theorem Gi{w:AU}{base:Nat}{e:AZ}{size:Nat}{xs:List AW}(h:w.ownsRow base e size v n xs)(hg:w.grownBy w' (some g))(j:g<base):w'.ownsRow base e size v n xs:=by
 refine⟨h.1,?_⟩;rcases h.2 with d|⟨k,cap,cur,hv,f,b,i⟩
 .exact Or.inl d
 have:=(h.lt k yFc).2;exact Or.inr ⟨k,cap,cur,hv,f,by rwa[hg.block k this (by intro e;cases e;omega)],i⟩
theorem VR:∀(b:List Stil.DN)(k:Nat)(d:Stil.DN),k<b.length->(((Dh b).set (k*3) (AB d.kind)).set (k*3+1) (AB d.n)).set (k*3+2) (AB d.p)=Dh (b.set k d)
 |[],k,d,h=>by simp at h
 |c::r,0,d,_=>rfl
 |c::r,k+1,d,h=>by
  have e:Dh (c::r)=AB c.kind::AB c.n::AB c.p::Dh r:=rfl;have i:Dh ((c::r).set (k+1) d)=AB c.kind::AB c.n::AB c.p::Dh (r.set k d):=rfl;have f:(k+1)*3=k*3+1+1+1:=BS
  rw[e,i,f,<-VR r k d C5];rfl
theorem YD{w:AU}{base b cap:Nat}{ds:List Stil.DN}(h:w.ownsRow base 111 3 (AE (some (AK b 0)) n cap) n (Dh ds))(d:Stil.DN)(e:k<ds.length):
  (((w.setCell (AK b (k*3)) (AB d.kind)).setCell (AK b (k*3+1)) (AB d.n)).setCell (AK b (k*3+2)) (AB d.p)).ownsRow base 111 3 (AE (some (AK b 0)) n cap) n (Dh (ds.set k d)):=by rw[<-VR ds k d e];exact(((h.stored (k*3) _).1.stored (k*3+1) _).1.stored (k*3+2) _).1
theorem OJ{w:AU}{base b cap:Nat}{ds:List Stil.DN}(h:w.ownsRow base 111 3 (AE (some (AK b 0)) ds.length cap) ds.length (Dh ds))(f:k<ds.length):
  w.cell? (AK b (k*3))=some (AB ds[k].kind)/\w.cell? (AK b (k*3+1))=some (AB ds[k].n)/\w.cell? (AK b (k*3+2))=some (AB ds[k].p)/\w.frozen? (AK b (k*3))=false/\w.frozen? (AK b (k*3+1))=false/\w.frozen? (AK b (k*3+2))=false:=by have⟨g,c,e,_,_,_,d⟩:=J9 h BS;simp only[BN,E9,Addr.mk.injEq]at e;obtain⟨⟨rfl,_⟩,_⟩:=e;have⟨i,l,j⟩:=Rz ds k f;exact⟨d _ _ i,d _ _ l,d _ _ j,h.frozenAt _,h.frozenAt _,h.frozenAt _⟩
def nu(w:AU)(g:Nat):G8 w g AG []:=⟨none,0,rfl,⟨DK _,λ_=>rfl⟩,λi hi=>by simp at hi⟩
theorem QV{ds:List Stil.DN}(h:∀d∈ds,Small d)(k:Nat)(d:Stil.DN)(hd:Small d):∀x∈ds.set k d,Small x:=λx e=>by
 rcases Bc2 e with b|rfl
 .exact h x b
 .exact hd
theorem ZM(g P:Nat)(op:Int)(v:Value)(ds:List Stil.DN)(w:World)(hr:Ku w g P)(hP:P<=1000000000)(aa:-1000000<=op/\op<=1000000)(hv:G8 w g v ds)(hs:∀d∈ds,Small d)(hl:ds.length<=50000):
  Calls prog 37 #[.pointer (some ⟨g,0,none⟩),.agg #[.int .i64 op,v]] w λe w'=>LQ e w w' g (P+20) (ds.length+1):=by
 obtain⟨i0,hi,C,z,ai⟩:=info_parts kY;have hg:=Jb hr;have HV:Hid (∀W,w.grownBy W (some g)->G8 W g v ds):=λW h=>hv.grown h (DK _);have L:Hid (∀d∈ds,Small d):=hs;obtain⟨a,cap,rfl,⟨aG,al⟩,hx⟩:=hv;have T:Hid (∀i(h:i<ds.length),∃b o,a=some ⟨b,o,none⟩/\g<b/\b<w.heap.size/\J3 w b (o+i*3) ds[i]):=hx;clear hx hs;go_enter func37,ntmps37;go_upto_region 1 with fail;go_cut [5] (λs5 wc=>∃b G,s5=.slice (some ⟨b,0,none⟩) ds.length G/\wc.ownsRow (w.heap.size+2) 111 3 (.slice (some ⟨b,0,none⟩) ds.length G) ds.length (Dh ds)/\Ku wc g P/\w.grownBy wc (some g)/\Zd wc w.heap.size op (.slice a ds.length cap)/\Zd wc (w.heap.size+1) 0 (.slice none 0 0));case first=>
  cases a with
  |none=>(obtain rfl:ds=[]:=by cases ds with|nil=>rfl|cons d r=>obtain⟨b,o,h,_⟩:=T 0 BU;cases h);obtain rfl:=al rfl;go_wp2;go_meet;have q:=World.ownsRow_lit (base:=w.heap.size+2) (e:=111) (size:=3) ((w.alloc (.cells #[.int .i64 op,.slice none 0 0] 53)).alloc (.cells #[.int .i64 0,.slice none 0 0] 53)) #[] 0 BU CH rfl;exact⟨w.heap.size+1+1,0,rfl,by simpa[Dh]using q,CC,Br,CP,CP⟩
  |some N=>have HN:Hid (∀W,w.grownBy W (some g)->∀j u,(Dh ds)[j]?=some u->W.cell? (N.add j)=some u):=(by intro W hW j u H;by_cases hd:ds=[];{subst hd;simp[Dh]at H};obtain⟨b,o,h,_⟩:=T 0 (by cases ds with|nil=>exact absurd rfl hd|cons d r=>simp);cases h;exact TM (HV W hW) j u H);have q:=World.ownsRow_lit (base:=w.heap.size+2) (e:=111) (size:=3) ((w.alloc (.cells #[.int .i64 op,.slice (some N) ds.length cap] 53)).alloc (.cells #[.int .i64 0,.slice none 0 0] 53)) #[] 0 BU CH rfl;have au:((((w.alloc (.cells #[.int .i64 op,.slice (some N) ds.length cap] 53)).alloc (.cells #[.int .i64 0,.slice none 0 0] 53)).alloc (.cells #[] 111))).ownsRow (w.heap.size+2) 111 3 (.slice (some ⟨w.heap.size+1+1,0,none⟩) 0 0) 0 []:=(by simpa using q);clear q;go_wp2_with(at_builtin;refine wpList_append_own _ rfl _ _ 51 rfl (w.heap.size+2) 111 i0 (.agg #[.int .i64 0,.int .i64 0,.int .i64 0]) 3 24 underlying51 hi C z ai rfl BZ _ _ _ rfl au N ds.length cap (Dh ds) rfl (Rq _) (HN _ Br) (si _) CH BS BU ?_);(intro v' w3 ah ak ac;have R:((((w.alloc (.cells #[.int .i64 op,.slice (some N) ds.length cap] 53)).alloc (.cells #[.int .i64 0,.slice none 0 0] 53)).alloc (.cells #[] 111))).grownBy w3 (some (w.heap.size+1+1)):=ak;obtain⟨b,G,rfl⟩:∃b G,v'=.slice (some ⟨b,0,none⟩) ds.length G:=by rcases ah.2 with⟨h0,h1⟩|⟨b,G,cur,h0,_⟩;{exact absurd h0 ac};exact⟨b,G,h0⟩);clear ak ac;go_wp2;go_meet;refine⟨b,G,rfl,ah,Qo (Gg (Gg (Gg hr _) _) _) R yDc,JE (Pm (Pm (Pm (Lc _ _) _) _) _) R yDc,Zd.grown ?_ R BS,Zd.grown ?_ R BS⟩;{exact CP};exact CP
 case rest=>
  obtain⟨b,G,rfl,O,D,ab,⟨ae,B,q1,A,F⟩,⟨ap,l,m,t,E⟩⟩:=hcut;clear HV T;have ax:w.heap.size+2<=b/\b<wc.heap.size:=O.lt b rfl;obtain⟨az,aA⟩:=ax;go_upto_if 37 with(first|(go_at_call_of 10 (Value.int IntKind.i64 6);refine(Ew g _ _ _ B7 BS BS BS).mono ?_;rintro e w3⟨x,rfl,ao,aw,D,Q⟩;obtain⟨C,B,A,q1,F⟩:E2 w3 w.heap.size (.int .i64 op) (.slice a ds.length cap):=qb2;obtain⟨z,l,t,m,E⟩:QbE w3 ((w.heap.size+1)):=qbE)|(go_at_call_of 35 (10:Nat);refine(Xv g _ _ _ [-1,0,1,5,11,20,21,26,37,38] _ B7 BS (Df xAc) BU CX BU BU).mono ?_;rintro e w4⟨y,rfl,I,D,fK⟩;simp only[EK,FG,FH]at I;obtain⟨C,B,A,q1,F⟩:E2 w4 w.heap.size (.int .i64 op) (.slice a ds.length cap):=qb2;obtain⟨z,l,t,m,E⟩:QbE w4 ((w.heap.size+1)):=qbE));{have q:=Gi ((Gi O Q BS).alloc _) fK BS;refine bodyPost_ret xAk rfl ?_;exact⟨_,_,ds,rfl,BS,TL (ownsRow_setCell_below (ownsRow_setCell_below q (EO _) _) (EO _) _) BS,L.out,BS,CC,Br⟩};{have q:=Gi O Q BS;go_region_law(first|(refine qI rfl _ _ 51 rfl (w.heap.size+2) 111 i0 (.agg #[.int .i64 0,.int .i64 0,.int .i64 0]) 3 24 underlying51 hi CB CB ai rfl BZ _ _ _ rfl ((Gi q ⟨s.os,s.tape,s.output,s.size,s.block⟩ BS).alloc _) _ _ _ (Uu d) rfl rfl (Vy _ (Uu d) _ _ BU) (by intro u hu;simp[Uu]at hu;rcases hu with rfl|rfl|rfl<;>rfl) CH BS yBd ?_;intro v' J aj bV;obtain⟨b6,an,rfl,aE,ay,_,_⟩:=J9 aj BS;have aC:(K.alloc (.cells #[.int .i64 d.kind,.int .i64 d.n,.int .i64 d.p] 111)).grownBy J (some b):=bV;obtain⟨C,B,A,q1,F⟩:E2 J w.heap.size (.int .i64 op) (.slice a ds.length cap):=qb2;obtain⟨z,l,t,m,E⟩:QbE J ((w.heap.size+1)):=qbE)|(go_simp;go_at_call 68;refine(eY g _ _ B7 BS).mono ?_;rintro e K⟨d,rfl,hd,D,s⟩;have aD:w3.heap.size<=K.heap.size:=s.size;obtain⟨C,B,A,q1,F⟩:E2 K w.heap.size (.int .i64 op) (.slice a ds.length cap):=qb2;obtain⟨z,l,t,m,E⟩:QbE K ((w.heap.size+1)):=qbE));(all_goals go_wp2);all_goals have bC:=Qo (Gg D _) aC yDc;have aB:w.grownBy J (some g):=JE (Pm (Eu (Eu ab Q) ⟨s.os,s.tape,s.output,s.size,s.block⟩) _) aC yDc;have aY:J.ownsRow (w.heap.size+2) 111 3 (.slice (some ⟨b6,0,none⟩) (ds.length+1) an) (ds.length+1) (Dh (ds++[d])):=(by rw[rj];exact aj);refine bodyPost_ret xAk rfl ?_;refine⟨_,_,ds++[d],rfl,aa,eN (n:=ds.length+1) BU (ownsRow_setCell_below (ownsRow_setCell_below aY (EO _) _) (EO _) _) BS,?_,BU,CC,Br⟩;intro y I;rcases List.mem_append.1 I with I|I;{exact L y I};simp at I;subst I;exact hd};{refine bodyPost_ret xAk rfl ?_;exact⟨_,_,[],rfl,aa,nu _ _,BU,BU,CC,Br⟩};have q:=Gi O Q BS;have e0:(x==0)=false:=CB;have e1:(x==1)=false:=CB;have e2:(x==2)=false:=CB;rw[e0,e1,e2];go_cut [6] (λ_ wc=>∃M:List Stil.DN,M.length=ds.length/\(∀d∈M,Small d)/\wc.ownsRow (w.heap.size+2) 111 3 (.slice (some ⟨b,0,none⟩) ds.length G) ds.length (Dh M)/\Ku wc g (P+19)/\w.grownBy wc (some g)/\Zd wc w.heap.size op (.slice a ds.length cap)/\Zd wc (w.heap.size+1) 0 (.slice none 0 0));case first=>by_cases aF:ds.length=0;{go_wp2;go_meet;exact⟨ds,rfl,L.out,q,CC,Br,CP,CP⟩};go_upto_if 53 with(first|(go_at_call_of 10 (ds.length:Nat);refine(Ew g _ _ _ B7 BS BS BS).mono ?_;rintro e K⟨y,rfl,ae,ap,D,s⟩;obtain⟨C,B,A,q1,F⟩:E2 K w.heap.size (.int .i64 op) (.slice a ds.length cap):=qb2;obtain⟨z,l,t,m,E⟩:QbE K ((w.heap.size+1)):=qbE;obtain⟨j,rfl⟩:=G4 ae;have H:j<ds.length:=BS;have vC:=Gi q s BS;obtain⟨r0,Y,Z,V,S,s2⟩:=OJ vC H)|(go_at_call 69;refine(YK g _ ds[j] _ B7 BS (L _ (DW H))).mono ?_;rintro e J⟨d,rfl,hd,D,bV⟩;have ag:=Gi vC bV BS;obtain⟨r0,Y,Z,V,S,s2⟩:=OJ ag H;obtain⟨C,B,A,q1,F⟩:E2 J w.heap.size (.int .i64 op) (.slice a ds.length cap):=qb2;obtain⟨z,l,t,m,E⟩:QbE J ((w.heap.size+1)):=qbE)|(go_at_call_of 10 (Value.int IntKind.i64 2);refine(Ew g _ _ _ B7 BS BS BS).mono ?_;rintro e w7⟨x,rfl,ao,aw,D,oL⟩;have U:=Gi (YD ag d H) oL BS;have qf:j<(ds.set j d).length:=(by simpa using H);obtain⟨r0,Y,Z,V,S,s2⟩:=OJ (by simpa using U) qf;obtain⟨C,B,A,q1,F⟩:E2 w7 w.heap.size (.int .i64 op) (.slice a ds.length cap):=qb2;obtain⟨z,l,t,m,E⟩:QbE w7 ((w.heap.size+1)):=qbE));go_wp2_with((go_at_call 68;refine(eY g _ _ B7 BS).mono ?_;rintro e w8⟨f,rfl,hf,D,qh⟩;have af:=Gi U qh BS;obtain⟨r0,Y,Z,V,S,s2⟩:=OJ (by simpa using af) qf;obtain⟨C,B,A,q1,F⟩:E2 w8 w.heap.size (.int .i64 op) (.slice a ds.length cap):=qb2;obtain⟨z,l,t,m,E⟩:QbE w8 ((w.heap.size+1)):=qbE));{go_meet;exact⟨(ds.set j d).set j f,BU,QV (QV L _ _ hd) _ _ hf,YD af f qf,CC,Br,CP,CP⟩};go_meet;exact⟨ds.set j d,BU,QV L _ _ hd,U,CC,Br,CP,CP⟩
  case rest=>clear D B q1 l m A F t E;obtain⟨M,ar,av,q,D,ab,⟨C,B,q1,A,F⟩,⟨z,l,m,t,E⟩⟩:=hcut;go_wp2;refine bodyPost_ret xAk rfl ?_;exact⟨_,_,M,rfl,aa,eN ar (ownsRow_setCell_below (ownsRow_setCell_below q (EO _) _) (EO _) _) BS,av,BS,CC,Br⟩
