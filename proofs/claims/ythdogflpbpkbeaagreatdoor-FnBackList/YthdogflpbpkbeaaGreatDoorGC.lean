import Derived.Test.YthdogflpbpkbeaaGreatDoorHid0
import Derived.Lib.SmallJoins
import Derived.Deep.RegionLaw
import Derived.Deep.DeepCutAuto
set_option linter.defProp false
set_option maxHeartbeats 4000000
set_option maxRecDepth 100000
namespace Go.Proofs.YthdogflpbpkbeaaGreatDoor
open Tryz Stil Go.RowKit Go.Sort Go.BigFrame
section
variable {W a w':AU}{n:Nat}{v:AW}
theorem Ju(op:Int)(w:AU):
  Calls prog 91 #[AB op] w λe w'=>e=.returned (AB (Stil.arity op))/\w'=w:=by
 go_enter func91,ntmps91;go_wp2;all_goals go_ret
 all_goals(refine⟨Fp ?_,rfl⟩;go_light;simp only[E4,DX] at*;unfold Stil.arity;first|(simp[*];done)|(repeat(first|rw[BR BS]|rw[BQ BS])))
theorem KU(k n p a b:Int)(w:AU)(d:-9223372036854775808<=n)(c:n<=9223372036854775807):
  Calls prog 151 #[.agg #[AB k,AB n,AB p],AB a,AB b] w (AN w (.bool (Ob k n p a b))):=by
 cases h:Ii k n p;all_goals
  go_enter func151,ntmps151;go_wp2_with(go_at_call 156;refine(LA _ _ _ _ d c).mo ?_;rintro e w'⟨rfl,f⟩;have⟨i,g⟩:=F7 f);all_goals go_ret
  all_goals(refine⟨Ac ?_,Uf CB⟩)
  all_goals go_light
  all_goals(rw[Ob,h,FB];clear h;simp[*])
def Bi{w:AU}(h:AO w a)(o:Obj):AO w (a.alloc o):=h.alloc h.size o
def CV{a b:Nat}(h:a<b:=by first|with_reducible assumption|(simp;done)|(simp;omega)):a<b:=h
def Bt{w:AU}{a:Ab}{v:Bool}(hb:Below n w W)(h1:a.block<n:=by simp)(h2:w.frozen? a=v:=by simp[go_sem]):W.frozen? a=v:=(hb.frozen h1).tr h2
def Bn{w:AU}{a:Ab}{v:Option AW}(hb:Below n w W)(h1:a.block<n:=by simp)(h2:w.cell? a=v:=by simp[go_sem]):W.cell? a=v:=(hb.cell h1).tr h2
def P5{w:AU}(h:AO w a)(n:Nat):AO w (a.drewN n):=below_drewN h n
def Ud{w:AU}(h:AO w a):AO w a.drew:=h.drew
def Bf{w b:AU}(h:AO w a)(k:AO a b):AO w b:=h.tr (k.mo h.size)
def Rj{w:AU}{p:Ab}(b:w.heap.size<=p.block)(h:AO w a)(v:AW):AO w (a.setCell p v):=h.s b v
def Ie{w:AU}(h:AO w a)(d:Nat)(os:Array Obj):AO w (grow (redrawn a d) os):=Bf h (below_regrown a d os)
def Bw{w:AU}(h:Below n w W:=by(repeat(first|exact BP _ _|assumption|refine Bi ?_ _|refine P5 ?_ _|refine Ud ?_|refine Ie ?_ _ _|refine Rj (DN _) ?_ _|refine Bf ?_ (by assumption)))):Below n w W:=h
def BV{w:AU}(h:Below n w W:=by(repeat(first|with_reducible exact BP _ _|with_reducible assumption|with_reducible refine Rj (by first|exact DN _|(simp;done)|(simp;omega)|omega) ?_ _|with_reducible refine Bi ?_ _|with_reducible refine P5 ?_ _|with_reducible refine Ud ?_|with_reducible refine Ie ?_ _ _|with_reducible refine Bf ?_ (by assumption)))):Below n w W:=h
def e9{w:AU}{b:Nat}(h:b<w.heap.size)(k:AO w a):b<a.heap.size:=DO h k.size
def Ax6{w b:AU}{o:Obj}(c:Below ((w.alloc o).drewN n).heap.size ((w.alloc o).drewN n) b):w.heap.size<b.heap.size:=xAj
def Jr(w:AU)(b o:Nat)(d:Stil.DR):Prop:=w.cell? (AK b o)=some (AB d.kind)/\w.cell? (AK b (o+1))=some (AB d.n)/\w.cell? (AK b (o+2))=some (AB d.p)
def Aq(w:AU)(v:AW)(ds:Ψ):Prop:=∃a cap,v=AE a ds.length cap/\∀i(h:i<ds.length),∃b o,a=some (AK b o)/\b<w.heap.size/\Jr w b (o+i*3) ds[i]
theorem Jr.below{w:AU}{b o:Nat}{d:Stil.DR}(h:Jr w b o d)(c:AO w w')(f:b<w.heap.size):Jr w' b o d:=by unfold Jr at*;rwa[c.cell (p:=(AK b o)) f,c.cell (p:=(AK b (o+1))) f,c.cell (p:=(AK b (o+2))) f]
theorem Aq.below{w:AU}{ds:Ψ}(h:Aq w v ds)(c:AO w w'):Aq w' v ds:=by obtain⟨a,cap,j,g⟩:=h;refine⟨a,cap,j,λi hi=>?_⟩;have⟨b,o,f,d,hd⟩:=g i hi;exact⟨b,o,f,DO d c.size,hd.below c d⟩
theorem Aq.O{w:AU}{d:Stil.DR}(h:Aq w v [d]):∃b o cap,v=AE (some (AK b o)) 1 cap/\b<w.heap.size/\Jr w b o d:=by obtain⟨a,cap,f,c⟩:=h;obtain⟨b,o,rfl,g,hd⟩:=c 0 BU;exact⟨b,o,cap,f,g,hd⟩
theorem Aq.two{w:AU}{d e:Stil.DR}(h:Aq w v [d,e]):∃b o cap,v=AE (some (AK b o)) 2 cap/\b<w.heap.size/\Jr w b o d/\Jr w b (o+3) e:=by obtain⟨a,cap,i,f⟩:=h;obtain⟨b,o,rfl,j,hd⟩:=f 0 BU;have⟨k,l,c,_,g⟩:=f 1 BU;simp only[FC,Addr.mk.injEq,Hj]at c;obtain⟨rfl,rfl⟩:=c;exact⟨b,o,cap,i,j,hd,g⟩
def zMa{p:Prop}(h:p:=by go_enter func113,ntmps113;go_wp2;go_quiet (exact Calls.quiet_of_same (Ju _ _));go_wp2;go_ret;exact⟨rfl,below_drewN (Aa _ _) _⟩):p:=h
theorem sr(op:Int)(a:Δ)(len cap:Nat)(w:AU)(h:op<1\/10<op\/(len:Int)≠Stil.arity op)(_hl:len<=9223372036854775807):
  Calls prog 113 #[.agg #[AB op,AE a len cap]] w (AN w (.bool false)):=by
 by_cases b:op<1
 .have d:decide (op<1)=true:=by simpa using b
  exact zMa
 have d:decide (op<1)=false:=by simpa using b
 by_cases c:10<op
 .have f:decide (10<op)=true:=by simpa using c
  exact zMa
 have f:decide (10<op)=false:=by simpa using c
 have g:((len:Int) !=Stil.arity op)=true:=xCd;clear h;go_enter func113,ntmps113;go_wp2;go_quiet (exact Calls.quiet_of_same (Ju _ _));go_wp2;go_ret;exact⟨rfl,below_drewN (Aa _ _) _⟩
theorem sM(op:Int)(b o cap:Nat)(d:Stil.DR)(w:AU)(h1:1<=op)(j:op<=2)(t:b<w.heap.size)(c:Jr w b o d)(g:-9223372036854775808<=d.n)(f:d.n<=9223372036854775807):
  Calls prog 113 #[.agg #[AB op,AE (some (AK b o)) 1 cap]] w (AN w (.bool d.isBit)):=by
 obtain⟨q,s,i⟩:=c;have m:decide (op<1)=false:=B1;have l:decide (10<op)=false:=B1;have r:Stil.arity op=1:=by unfold Stil.arity;rw[BR BS]
 go_enter func113,ntmps113;go_wp2;go_quiet (exact Calls.quiet_of_same (Ju _ _));go_wp2_with(go_at_call 155;refine(Y4 _ _ _ _ g f).mo ?_;rintro e w'⟨rfl,k⟩);go_ret;exact⟨rfl,Bw⟩
theorem sq(op:Int)(b o cap:Nat)(d f:Stil.DR)(w:AU)(h1:3<=op)(z:op<=4)(s:b<w.heap.size)(t:Jr w b o d)(u:Jr w b (o+3) f)(i:-9223372036854775808<=d.n)(g:d.n<=9223372036854775807)(q:-9223372036854775808<=f.n)(k:f.n<=9223372036854775807):
  Calls prog 113 #[.agg #[AB op,AE (some (AK b o)) 2 cap]] w (AN w (.bool (d.isBit && f.ok && f.kind==5))):=by
 obtain⟨E,O,K⟩:=t;obtain⟨A,C,y⟩:=u;have L:b<w.z+1:=BS;have D:decide (op<1)=false:=B1;have M:decide (10<op)=false:=B1;have F:Stil.arity op=2:=xAk;have H:decide (op<=2)=false:=B1;unfold Stil.DR.isBit Stil.DR.ok;cases B:Rf d.kind d.n d.p
 .go_enter func113,ntmps113;go_wp2;go_quiet (exact Calls.quiet_of_same (Ju _ _));go_wp2_with(go_at_call 155;refine(Y4 _ _ _ _ i g).mo ?_;rintro e w'⟨rfl,c⟩;have⟨l,j⟩:=F7 c);go_ret;exact⟨rfl,Bw⟩
 cases N:Ii f.kind f.n f.p
 .go_enter func113,ntmps113;go_wp2;go_quiet (exact Calls.quiet_of_same (Ju _ _));go_wp2_with(first|(go_at_call 155;refine(Y4 _ _ _ _ i g).mo ?_;rintro e w'⟨rfl,c⟩;have⟨l,j⟩:=F7 c)|(go_at_call 156;refine(LA _ _ _ _ q k).mo ?_;rintro e r⟨rfl,m⟩));go_ret;exact⟨Ac BU,Bw⟩
 go_enter func113,ntmps113;go_wp2;go_quiet (exact Calls.quiet_of_same (Ju _ _));go_wp2_with(first|(go_at_call 155;refine(Y4 _ _ _ _ i g).mo ?_;rintro e w'⟨rfl,c⟩;have⟨l,j⟩:=F7 c;have x:=Ax6 c;have I:=Nat.lt_trans s x)|(go_at_call 156;refine(LA _ _ _ _ q k).mo ?_;rintro e r⟨rfl,m⟩;have⟨J,G⟩:=F7 m));go_ret;exact⟨Ac BU,Bw⟩
theorem sO(op:Int)(b o cap:Nat)(d f:Stil.DR)(w:AU)(h1:5<=op)(s:op<=10)(D:b<w.heap.size)(l:Jr w b o d)(q:Jr w b (o+3) f)(H:-9223372036854775808<=d.n)(G:d.n<=9223372036854775807)(J:-9223372036854775808<=f.n)(u:f.n<=9223372036854775807):
  Calls prog 113 #[.agg #[AB op,AE (some (AK b o)) 2 cap]] w (AN w (.bool (d.isWhole && f.isWhole || d.isReal && f.isReal))):=by
 obtain⟨z,K,E⟩:=l;obtain⟨t,x,r⟩:=q;have F:b<w.z+1:=BS;have y:decide (op<1)=false:=B1;have I:decide (10<op)=false:=B1;have A:Stil.arity op=2:=xAk;have B:decide (op<=2)=false:=B1;have C:decide (op<=4)=false:=B1;unfold Stil.DR.isWhole Stil.DR.isReal;go_enter func113,ntmps113;go_wp2;go_quiet (exact Calls.quiet_of_same (Ju _ _));go_wp2_with(first|(go_at_call 152;refine(Uo _ _ _ _ CB CB).mo ?_;rintro e g⟨rfl,c⟩;have⟨j,i⟩:=F7 c;have m:w.z<g.z:=DO B5 c.size;have k:=DO B5 c.size)|(go_at_call 153;refine(Xb _ _ _ _ CB CB).mo ?_;rintro e g⟨rfl,c⟩;have⟨j,i⟩:=F7 c;have m:w.z<g.z:=DO B5 c.size;have k:=DO B5 c.size));all_goals go_ret
 all_goals(refine⟨Ac ?_,Bw⟩)
 all_goals go_light
 all_goals simp[*]
theorem Ww(op:Int)(v:AW)(ds:Ψ)(w:AU)(j:Aq w v ds)(i:∀d∈ds,d.fits)(hl:ds.length<=9223372036854775807):
  Calls prog 113 #[.agg #[AB op,v]] w (AN w (.bool (Df op ds))):=by
 have c:∀(h:op<1\/10<op\/(ds.l:Int)≠Stil.arity op),Df op ds=false->Calls prog 113 #[.agg #[AB op,v]] w (AN w (.bool (Df op ds))):=by intro h u;obtain⟨a,cap,rfl,_⟩:=j;rw[u];exact sr op a ds.l cap w h hl
 by_cases h1:op<1\/10<op
 .exact c BS (by unfold Df;rw[BR h1])
 by_cases k:op<=2
 .have ha:Stil.arity op=1:=by unfold Stil.arity;rw[BR BS]
  match ds,j,i,hl,c with
  |[],_,_,_,c=>exact c yEf yDi|[d],j,i,_,_=>obtain⟨b,o,cap,rfl,m,hd⟩:=j.O;have:=(i d BU).2.1;have e:Df op [d]=d.isBit:=xCc;rw[e];exact sM op b o cap d w BS k m hd this.1 this.2
  |[d,f],_,_,_,c=>exact c yEf xCc|d::f::g::r,_,_,_,c=>exact c (by right;right;simp[ha];omega) yDi
 have ha:Stil.arity op=2:=by unfold Stil.arity;rw[BQ BS,BQ BS,BR BS]
 match ds,j,i,hl,c with
 |[],_,_,_,c=>exact c yEf yDi|[d],_,_,_,c=>exact c yEf xCc
 |[d,f],j,i,_,_=>
  obtain⟨b,o,cap,rfl,m,hd,t⟩:=j.two;have q:=(i d BU).2.1;have l:=(i f BU).2.1;by_cases s:op<=4;{have e:Df op [d,f]=(d.isBit && f.ok && f.kind==5):=(by unfold Df;rw[BQ h1];simp[k,s]);rw[e];exact sq op b o cap d f w BS s m hd t q.1 q.2 l.1 l.2};have e:Df op [d,f]=(d.isWhole && f.isWhole || d.isReal && f.isReal):=by unfold Df;rw[BQ h1];simp[k,s]
  rw[e];exact sO op b o cap d f w BS BS m hd t q.1 q.2 l.1 l.2
 |d::f::g::r,_,_,_,c=>exact c (by right;right;simp[ha];omega) yDi
def zYa{p:Prop}(h:p:=by refine⟨⟨k+1,BS,by go_num,by rw[HC.out,HR.out];rfl,?_⟩,by simp[intOf];omega⟩;exact hB.tr (hb.mo hz)):p:=h
theorem qz(op:Int)(b o cap:Nat)(d:Stil.DR)(r:Ψ)(w:AU)(I:b<w.heap.size)(hl:r.length<=100)
  (u:∀i(h:i<(d::r).length),Jr w b (o+i*3) (d::r)[i]) (t:∀x∈d::r,x.fits):
  Calls prog 154 #[.agg #[AB op,AE (some (AK b o)) (r.length+1) cap]] w (AN w (.bool (G3 op (d::r)))):=by
 have U:b<w.heap.size+1:=BS;have⟨z,H,L⟩:=u 0 BU;simp only[G0,IV,IQ]at z H L;have⟨N,M⟩:=(t d BU).2.1;cases J:Ob d.kind d.n d.p 9 10
 .have q:Hid (G3 op (d::r)=false):=by show _=_;simp only[G3,Stil.DR.kindIs,J];rfl
  clear u t;go_enter func154,ntmps154;go_wp2_with(first|(go_at_call 151;refine(KU _ _ _ _ _ _ N M).mo ?_;rintro e C⟨rfl,hb⟩;have⟨g,f⟩:=F7 hb;have j:w.heap.size<C.heap.size:=DO B5 hb.size;have c:=DO B5 hb.size));go_ret;exact⟨Ac (by rw[q.out]),Bw⟩
 cases Q:d.kind==9
 .have q:Hid (G3 op (d::r)=(Oj false r && (op !=35))):=by show _=_;simp only[G3,Stil.DR.kindIs,J,Q];simp
  have O:=BZ u;have P:=BZ t;clear u t;go_enter func154,ntmps154;go_wp2_with(first|(go_at_call 151;refine(KU _ _ _ _ _ _ N M).mo ?_;rintro e C⟨rfl,hb⟩;have⟨g,f⟩:=F7 hb;have j:w.heap.size<C.heap.size:=DO B5 hb.size;have c:=DO B5 hb.size));clear g f j c;go_loopw [4] (λi wr=>∃k:Nat,k<=r.length/\i=AB ((k:Int)+1)/\Oj false r=Oj false (r.drop k)/\Below (w.heap.size+1) (w.alloc (.cells #[AB op,AE (some (AK b o)) (r.length+1) cap] 60)) wr) (λi _=>r.length+1 - (intOf i).toNat);case atStart=>exact⟨0,BS,rfl,rfl,hb.mo BU⟩
  case round=>clear hb;obtain⟨k,T,rfl,E,hB⟩:=hrel;have HC:=BZ E;clear E z H L;have hz:w.heap.size<wr.heap.size:=xAi;have z:wr.c (AL w 0)=some (AB op):=Bn hB;have S:wr.f (AL w 0)=false:=Bt hB;have H:wr.c (AL w 1)=some (AE (some (AK b o)) (r.length+1) cap):=Bn hB;have R:wr.f (AL w 1)=false:=Bt hB;have y:=(Aa _ _).tr (hB.mo BS);have c:=e9 I y;by_cases K:k<r.length;{have⟨D,F,G⟩:=(O (k+1) B1).below y I;(simp only[LQ]at D F G;have⟨s,l⟩:=(P r[k] BU).2.1;have HR:Hid (Oj false (r.drop k)=(J5 r[k].kind r[k].n r[k].p && Oj false (r.drop (k+1)))):=by show(r.drop k).all _=_;rw[GL K,List.all_cons];rfl);have⟨x,B⟩:=AA (r[k]);rw[<-B]at D F G s l HR;clear B;cases A:J5 x.kind x.n x.p;{rw[A]at HR;go_wp2_with(first|(go_at_call 153;refine(Xb _ _ _ _ s l).mo ?_;rintro e m⟨rfl,hb⟩;have⟨g,f⟩:=F7 hb;have j:w.heap.size<m.heap.size:=DO B5 hb.size;have c:=DO B5 hb.size));go_ret;exact⟨Ac (by rw[q.out,HC.out,HR.out];rfl),Bw⟩};rw[A]at HR;go_wp2_with(first|(go_at_call 153;refine(Xb _ _ _ _ s l).mo ?_;rintro e m⟨rfl,hb⟩;have⟨g,f⟩:=F7 hb;have j:w.heap.size<m.heap.size:=DO B5 hb.size;have c:=DO B5 hb.size));exact zYa};go_wp2;go_ret;exact⟨Ac (by rw[q.out,HC.out,IU BS];rfl),Bw⟩
 have q:Hid (G3 op (d::r)=Oj true r):=by show _=_;simp only[G3,Stil.DR.kindIs,J,Q];simp
 have O:=BZ u;have P:=BZ t;clear u t;go_enter func154,ntmps154;go_wp2_with(first|(go_at_call 151;refine(KU _ _ _ _ _ _ N M).mo ?_;rintro e C⟨rfl,hb⟩;have⟨g,f⟩:=F7 hb;have j:w.heap.size<C.heap.size:=DO B5 hb.size;have c:=DO B5 hb.size));clear g f j c;go_loopw [4] (λi wr=>∃k:Nat,k<=r.length/\i=AB ((k:Int)+1)/\Oj true r=Oj true (r.drop k)/\Below (w.heap.size+1) (w.alloc (.cells #[AB op,AE (some (AK b o)) (r.length+1) cap] 60)) wr) (λi _=>r.length+1 - (intOf i).toNat);case atStart=>exact⟨0,BS,rfl,rfl,hb.mo BU⟩
 case round=>clear hb;obtain⟨k,T,rfl,E,hB⟩:=hrel;have HC:=BZ E;clear E z H L;have hz:w.heap.size<wr.heap.size:=xAi;have z:wr.c (AL w 0)=some (AB op):=Bn hB;have S:wr.f (AL w 0)=false:=Bt hB;have H:wr.c (AL w 1)=some (AE (some (AK b o)) (r.length+1) cap):=Bn hB;have R:wr.f (AL w 1)=false:=Bt hB;have y:=(Aa _ _).tr (hB.mo BS);have c:=e9 I y;by_cases K:k<r.length;{have⟨D,F,G⟩:=(O (k+1) B1).below y I;(simp only[LQ]at D F G;have⟨s,l⟩:=(P r[k] BU).2.1;have HR:Hid (Oj true (r.drop k)=(Jc r[k].kind r[k].n r[k].p && Oj true (r.drop (k+1)))):=by show(r.drop k).all _=_;rw[GL K,List.all_cons];rfl);have⟨x,B⟩:=AA (r[k]);rw[<-B]at D F G s l HR;clear B;cases A:Jc x.kind x.n x.p;{rw[A]at HR;go_wp2_with(first|(go_at_call 152;refine(Uo _ _ _ _ s l).mo ?_;rintro e m⟨rfl,hb⟩;have⟨g,f⟩:=F7 hb;have j:w.heap.size<m.heap.size:=DO B5 hb.size;have c:=DO B5 hb.size));go_ret;exact⟨Ac (by rw[q.out,HC.out,HR.out];rfl),Bw⟩};rw[A]at HR;go_wp2_with(first|(go_at_call 152;refine(Uo _ _ _ _ s l).mo ?_;rintro e m⟨rfl,hb⟩;have⟨g,f⟩:=F7 hb;have j:w.heap.size<m.heap.size:=DO B5 hb.size;have c:=DO B5 hb.size));exact zYa};go_wp2;go_ret;exact⟨Ac (by rw[q.out,HC.out,IU BS];rfl),Bw⟩
def zNa{p:Prop}(h:p:=by go_enter func112,ntmps112;go_wp2;go_quiet (exact Calls.quiet_of_same (Ju _ _));go_wp2;go_ret;exact⟨rfl,below_drewN (Aa _ _) _⟩):p:=h
theorem xd(op:Int)(a:Δ)(len cap:Nat)(w:AU)(h:op<21\/37<op\/(len:Int)≠Stil.arity op)(_hl:len<=9223372036854775807):
  Calls prog 112 #[.agg #[AB op,AE a len cap]] w (AN w (.bool false)):=by
 by_cases b:op<21
 .have d:decide (op<21)=true:=by simpa using b
  exact zNa
 have d:decide (op<21)=false:=by simpa using b
 by_cases c:37<op
 .have f:decide (37<op)=true:=by simpa using c
  exact zNa
 have f:decide (37<op)=false:=by simpa using c
 have g:((len:Int) !=Stil.arity op)=true:=xCd;clear h;go_enter func112,ntmps112;go_wp2;go_quiet (exact Calls.quiet_of_same (Ju _ _));go_wp2;go_ret;exact⟨rfl,below_drewN (Aa _ _) _⟩
theorem vA(op:Int)(b o cap:Nat)(d:Stil.DR)(w:AU)(h1:21<=op)(i:op<=37)(c:Stil.arity op=1)(x:b<w.heap.size)(k:Jr w b o d)(D:-9223372036854775808<=d.n)(C:d.n<=9223372036854775807):
  Calls prog 112 #[.agg #[AB op,AE (some (AK b o)) 1 cap]] w (AN w (.bool (Gi op [d]))):=by
 obtain⟨s,F,A⟩:=k;have B:b<w.heap.size+1:=BS;have t:b<w.heap.size+1+1:=BS;have j:op=21\/op=22\/op=23\/op=25:=by unfold Stil.arity at c;split at c;{omega};split at c;{omega};split at c<;>omega
 have l:Hid (Gi op [d]=if op=21 then Ob d.kind d.n d.p 2 3 else if op=22 then Ob d.kind d.n d.p 2 3 || Ob d.kind d.n d.p 4 4 else if op=23 then Ob d.kind d.n d.p 2 3 || Ob d.kind d.n d.p 4 7 || Ob d.kind d.n d.p 8 8 else Ob d.kind d.n d.p 4 4):=by show _=_;unfold Gi;rw[BQ (by simp[c];omega)];rfl
 have q:decide (op<21)=false:=B1;have E:decide (37<op)=false:=B1;clear h1 i;rcases j with rfl|rfl|rfl|rfl;all_goals
  go_enter func112,ntmps112;go_wp2;go_quiet (exact Calls.quiet_of_same (Ju _ _));go_wp2_with(first|(go_at_call 151;refine(KU _ _ _ _ _ _ CB CB).mono ?_;rintro e g⟨rfl,f⟩;have⟨r,m⟩:=F7 f;have z:w.heap.size<g.heap.size:=DO B5 f.size;have u:w.heap.size+1<g.heap.size:=DO B5 f.size;have y:=DO B5 f.size));all_goals go_ret
  all_goals(refine⟨Ac ?_,Bw⟩)
  all_goals rw[l.out]
  all_goals go_light
  all_goals simp[*]
def zea {p:Prop}(h:p:=by
 go_enter func112,ntmps112;go_wp2;go_quiet (exact Calls.quiet_of_same (Ju _ _));go_wp2_with(first|(go_at_call 151;refine(KU _ _ _ _ _ _ CB CB).mo ?_;rintro e w1⟨rfl,hb⟩;have⟨hc,hf⟩:=F7 hb;have hz0:w.heap.size<w1.heap.size:=DO B5 hb.size;have hz1:w.heap.size+1<w1.heap.size:=DO B5 hb.size;have hz2:=DO B5 hb.size));all_goals go_ret
 all_goals(refine⟨Ac ?_,Bw⟩)
 all_goals go_light
 all_goals simp[*]):p:=h
def zoa {p:Prop}(h:p:=by
 obtain⟨c0,c1,c2⟩:=hat;obtain⟨e0,e1,e2⟩:=dG;have hlt1:b<w.heap.size+1:=BS;have hlt2:b<w.heap.size+1+1:=BS;have h3:Stil.arity op=2:=by unfold Stil.arity;rw[BQ BS,BQ BS,BR BS]
 have h1':decide (op<21)=false:=by simp;omega
 have h2':decide (37<op)=false:=by simp;omega
 subst ho;all_goals exact zea):p:=h
def sx(op:Int)(b o cap:Nat)(d f:Stil.DR)(w:AU)(ho:op=24)(k:b<w.heap.size)(hat:Jr w b o d)(dG:Jr w b (o+3) f)(c:-9223372036854775808<=d.n)(g:d.n<=9223372036854775807)(j:-9223372036854775808<=f.n)(i:f.n<=9223372036854775807):
  Calls prog 112 #[.agg #[AB op,AE (some (AK b o)) 2 cap]] w (AN w (.bool (Ob d.kind d.n d.p 2 3 && Ob f.kind f.n f.p 5 5))):=by exact zoa
theorem U3(op:Int)(b o cap:Nat)(d f:Stil.DR)(w:AU)(i:op=26\/op=27\/op=28)(D:b<w.heap.size)(c:Jr w b o d)(g:Jr w b (o+3) f)(q:-9223372036854775808<=d.n)(r:d.n<=9223372036854775807)(z:-9223372036854775808<=f.n)(t:f.n<=9223372036854775807):
  Calls prog 112 #[.agg #[AB op,AE (some (AK b o)) 2 cap]] w (AN w (.bool (Ob d.kind d.n d.p 7 7 && Ob f.kind f.n f.p 11 11 && decide (0<=f.n)))):=by obtain⟨y,C,j⟩:=c;obtain⟨m,u,k⟩:=g;have l:b<w.z+1:=BS;have B:b<w.z+1+1:=BS;have A:Stil.arity op=2:=xAk;have x:decide (op<21)=false:=B1;have s:decide (37<op)=false:=B1;rcases i with rfl|rfl|rfl;all_goals exact zea
def s6(op:Int)(b o cap:Nat)(d f:Stil.DR)(w:AU)(ho:op=29)(k:b<w.heap.size)(hat:Jr w b o d)(dG:Jr w b (o+3) f)(c:-9223372036854775808<=d.n)(g:d.n<=9223372036854775807)(j:-9223372036854775808<=f.n)(i:f.n<=9223372036854775807):
  Calls prog 112 #[.agg #[AB op,AE (some (AK b o)) 2 cap]] w (AN w (.bool (Ob d.kind d.n d.p 8 8 && Ob f.kind f.n f.p 11 11 && decide (0<=f.n)))):=by exact zoa
theorem tD(op:Int)(b o cap:Nat)(d f:Stil.DR)(w:AU)(j:op=36)(D:b<w.heap.size)(q:Jr w b o d)(s:Jr w b (o+3) f)(H:-9223372036854775808<=d.n)(G:d.n<=9223372036854775807)(J:-9223372036854775808<=f.n)(x:f.n<=9223372036854775807):
  Calls prog 112 #[.agg #[AB op,AE (some (AK b o)) 2 cap]] w (AN w (.bool (Ob d.kind d.n d.p 10 10 && Jc f.kind f.n f.p))):=by
 obtain⟨A,K,E⟩:=q;obtain⟨u,y,t⟩:=s;have F:b<w.heap.size+1:=BS;have C:b<w.heap.size+1+1:=BS;have B:Stil.arity op=2:=xAk;have z:decide (op<21)=false:=B1;have I:decide (37<op)=false:=B1;subst j;all_goals
  go_enter func112,ntmps112;go_wp2;go_quiet (exact Calls.quiet_of_same (Ju _ _));go_wp2_with(first|(go_at_call 151;refine(KU _ _ _ _ _ _ CB CB).mono ?_;rintro e g⟨rfl,c⟩;have⟨k,i⟩:=F7 c;have r:w.heap.size<g.heap.size:=DO B5 c.size;have l:w.heap.size+1<g.heap.size:=DO B5 c.size;have m:=DO B5 c.size)|(go_at_call 152;refine(Uo _ _ _ _ CB CB).mono ?_;rintro e g⟨rfl,c⟩;have⟨k,i⟩:=F7 c;have r:w.heap.size<g.heap.size:=DO B5 c.size;have l:w.heap.size+1<g.heap.size:=DO B5 c.size;have m:=DO B5 c.size));all_goals go_ret
  all_goals(refine⟨Ac ?_,Bw⟩)
  all_goals go_light
  all_goals simp[*]
theorem sw(op:Int)(b o cap:Nat)(d f:Stil.DR)(w:AU)(j:op=37)(D:b<w.heap.size)(q:Jr w b o d)(s:Jr w b (o+3) f)(H:-9223372036854775808<=d.n)(G:d.n<=9223372036854775807)(J:-9223372036854775808<=f.n)(x:f.n<=9223372036854775807):
  Calls prog 112 #[.agg #[AB op,AE (some (AK b o)) 2 cap]] w (AN w (.bool (Ob d.kind d.n d.p 9 9 && J5 f.kind f.n f.p))):=by
 obtain⟨A,K,E⟩:=q;obtain⟨u,y,t⟩:=s;have F:b<w.heap.size+1:=BS;have C:b<w.heap.size+1+1:=BS;have B:Stil.arity op=2:=xAk;have z:decide (op<21)=false:=B1;have I:decide (37<op)=false:=B1;subst j;all_goals
  go_enter func112,ntmps112;go_wp2;go_quiet (exact Calls.quiet_of_same (Ju _ _));go_wp2_with(first|(go_at_call 151;refine(KU _ _ _ _ _ _ CB CB).mono ?_;rintro e g⟨rfl,c⟩;have⟨k,i⟩:=F7 c;have r:w.heap.size<g.heap.size:=DO B5 c.size;have l:w.heap.size+1<g.heap.size:=DO B5 c.size;have m:=DO B5 c.size)|(go_at_call 153;refine(Xb _ _ _ _ CB CB).mono ?_;rintro e g⟨rfl,c⟩;have⟨k,i⟩:=F7 c;have r:w.heap.size<g.heap.size:=DO B5 c.size;have l:w.heap.size+1<g.heap.size:=DO B5 c.size;have m:=DO B5 c.size));all_goals go_ret
  all_goals(refine⟨Ac ?_,Bw⟩)
  all_goals go_light
  all_goals simp[*]
theorem VY(op:Int)(b o cap:Nat)(d:Stil.DR)(r:Ψ)(w:AU)(j:30<=op/\op<=35)(g:Stil.arity op=(r.length:Int)+1)(m:b<w.heap.size)
  (c:∀i(h:i<(d::r).length),Jr w b (o+i*3) (d::r)[i]) (f:∀x∈d::r,x.fits):
  Calls prog 112 #[.agg #[AB op,AE (some (AK b o)) (r.length+1) cap]] w (AN w (.bool (G3 op (d::r)))):=by
 have⟨l,u,q⟩:=c 0 BU;simp only[G0,IV,IQ]at l u q;have t:r.length<=100:=by
  have:Stil.arity op<=3:=by unfold Stil.arity;split<;>(try split)<;>(try split)<;>omega
  omega
 have y:=BZ (λW(s:AO w W)i(h:i<(d::r).length)=>(c i h).below s m);have z:=BZ f;have I:decide (op<21)=false:=B1;have O:decide (37<op)=false:=B1;have k:(op==21)=false/\(op==22)=false/\(op==23)=false/\(op==24)=false/\(op==25)=false/\(op==26)=false/\(op==27)=false/\(op==28)=false/\(op==29)=false/\(op==36)=false/\(op==37)=false:=by simp only[DX];omega
 obtain⟨A,J,B,F,D,L,H,M,P,E,C⟩:=k;have K:(((r.length:Int)+1) !=Stil.arity op)=false:=by rw[g];simp
 clear c f j g;go_enter func112,ntmps112;go_wp2;go_quiet (exact Calls.quiet_of_same (Ju _ _));go_wp2_with(first|(go_at_call 154;refine(qz op b o cap d r _ B1 t (y _ Bw) z.out).mo ?_;rintro e N⟨rfl,G⟩));go_ret;exact⟨rfl,Bw⟩
theorem Arp{op:Int}(h1:21<=op)(c:op<=37):(Stil.arity op=1/\(op=21\/op=22\/op=23\/op=25))\/(Stil.arity op=2/\(op=24\/op=26\/op=27\/op=28\/op=29\/op=30\/op=36\/op=37))\/(Stil.arity op=3/\31<=op/\op<=35):=by
 unfold Stil.arity;by_cases a:op=1\/op=2\/op=21\/op=22\/op=23\/op=25
 .rw[BR a];left;exact⟨rfl,BS⟩
 rw[BQ a];by_cases b:31<=op/\op<=35
 .rw[BR b];right;right;exact⟨rfl,b⟩
 rw[BQ b,BR BS];right;left;exact⟨rfl,BS⟩
theorem Aq.cons{w:AU}{d:Stil.DR}{r:Ψ}(h:Aq w v (d::r)):∃b o cap,v=AE (some (AK b o)) (r.length+1) cap/\b<w.heap.size/\∀i(hi:i<(d::r).length),Jr w b (o+i*3) (d::r)[i]:=by obtain⟨a,cap,j,f⟩:=h;obtain⟨b,o,rfl,k,_⟩:=f 0 BU;refine⟨b,o,cap,j,k,λi hi=>?_⟩;have⟨l,m,c,_,g⟩:=f i hi;simp only[FC,Addr.mk.injEq,Hj]at c;obtain⟨rfl,rfl⟩:=c;exact g
theorem dx(op:Int)(v:AW)(ds:Ψ)(w:AU)(q:Aq w v ds)(m:∀d∈ds,d.fits)(hl:ds.length<=9223372036854775807):
  Calls prog 112 #[.agg #[AB op,v]] w (AN w (.bool (Gi op ds))):=by
 by_cases h:op<21\/37<op\/(ds.l:Int)≠Stil.arity op
 .have e:Gi op ds=false:=by unfold Gi;rw[BR h]
  obtain⟨a,cap,rfl,_⟩:=q;rw[e];exact xd op a ds.l cap w h hl
 have x:21<=op:=by omega
 have y:op<=37:=BS;have c:(ds.l:Int)=Stil.arity op:=BS;rcases Arp x y with⟨l,t⟩|⟨l,t⟩|⟨l,t⟩
 .match ds,q,m,h,c with
  |[],_,_,_,c=>rw[l]at c;simp at c
  |[d],q,m,h,c=>
   obtain⟨b,o,cap,rfl,k,hd⟩:=q.O;have i:=(m d BU).2.1;exact vA op b o cap d w x y l k hd i.1 i.2
  |d::f::r,_,_,_,c=>rw[l]at c;simp at c;omega
 .match ds,q,m,h,c with
  |[],_,_,_,c=>rw[l]at c;simp at c
  |[d],_,_,_,c=>rw[l]at c;simp at c
  |[d,f],q,m,h,c=>
   by_cases z:op=30
   .have⟨b,o,cap,u,k,hd⟩:=q.cons
    have e:Gi op [d,f]=G3 op [d,f]:=by
     unfold Gi;rw[BQ h];simp[z]
    rw[e,u];exact VY op b o cap d [f] w BS (by rw[l];rfl) k hd m
   .obtain⟨b,o,cap,rfl,k,hd,s⟩:=q.two
    have i:=(m d BU).2.1;have j:=(m f BU).2.1;rcases t with rfl|rfl|rfl|rfl|rfl|rfl|rfl|rfl
    .have e:Gi 24 [d,f]=(Ob d.kind d.n d.p 2 3 && Ob f.kind f.n f.p 5 5):=by unfold Gi;rw[BQ h];rfl
     rw[e];exact sx 24 b o cap d f w rfl k hd s i.1 i.2 j.1 j.2
    .have e:Gi 26 [d,f]=(Ob d.kind d.n d.p 7 7 && Ob f.kind f.n f.p 11 11 && decide (0<=f.n)):=by unfold Gi;rw[BQ h];rfl
     rw[e];exact U3 26 b o cap d f w BS k hd s i.1 i.2 j.1 j.2
    .have e:Gi 27 [d,f]=(Ob d.kind d.n d.p 7 7 && Ob f.kind f.n f.p 11 11 && decide (0<=f.n)):=by unfold Gi;rw[BQ h];rfl
     rw[e];exact U3 27 b o cap d f w BS k hd s i.1 i.2 j.1 j.2
    .have e:Gi 28 [d,f]=(Ob d.kind d.n d.p 7 7 && Ob f.kind f.n f.p 11 11 && decide (0<=f.n)):=by unfold Gi;rw[BQ h];rfl
     rw[e];exact U3 28 b o cap d f w BS k hd s i.1 i.2 j.1 j.2
    .have e:Gi 29 [d,f]=(Ob d.kind d.n d.p 8 8 && Ob f.kind f.n f.p 11 11 && decide (0<=f.n)):=by unfold Gi;rw[BQ h];rfl
     rw[e];exact s6 29 b o cap d f w rfl k hd s i.1 i.2 j.1 j.2
    .exact absurd rfl z
    .have e:Gi 36 [d,f]=(Ob d.kind d.n d.p 10 10 && Jc f.kind f.n f.p):=by unfold Gi;rw[BQ h];rfl
     rw[e];exact tD 36 b o cap d f w rfl k hd s i.1 i.2 j.1 j.2
    .have e:Gi 37 [d,f]=(Ob d.kind d.n d.p 9 9 && J5 f.kind f.n f.p):=by unfold Gi;rw[BQ h];rfl
     rw[e];exact sw 37 b o cap d f w rfl k hd s i.1 i.2 j.1 j.2
  |d::f::g::r,_,_,_,c=>rw[l]at c;simp at c;omega
 .match ds,q,m,h,c with
  |[],_,_,_,c=>rw[l]at c;simp at c
  |[d],_,_,_,c=>rw[l]at c;simp at c
  |[d,f],_,_,_,c=>rw[l]at c;simp at c
  |d::f::g::r,q,m,h,c=>
   have⟨b,o,cap,u,k,hd⟩:=q.cons;have e:Gi op (d::f::g::r)=G3 op (d::f::g::r):=by
    unfold Gi;rw[BQ h]
   rw[e,u];exact VY op b o cap d (f::g::r) w BS (by rw[<-c];simp) k hd m
end
variable {e:AZ}{n size:Nat}{v:AW}{w':AU}{xs:Θ}
def Zm(k:Int):Bool:=decide (1<=k) && (decide (k<=4) || k==6 || k==7 || k==8)
def Qq(k:Int):Bool:=k==7 || k==8 || k==9 || k==11
def U4(k:Int):Bool:=k==10 || k==12 || k==13
def Eh(w:AU):Prop:=2<w.heap.size/\∀k:Nat,k<14->w.cell? (AK 2 (k*5))=some (.string (Q9 k))/\w.cell? (AK 2 (k*5+1))=some (AB (Jb k))/\w.cell? (AK 2 (k*5+2))=some (.bool (Zm k))/\w.cell? (AK 2 (k*5+3))=some (.bool (Qq k))/\w.cell? (AK 2 (k*5+4))=some (.bool (U4 k))
theorem Eh.below{w:AU}(h:Eh w)(i:AO w w'):Eh w':=by obtain⟨f,h⟩:=h;have⟨g,_⟩:=F7 i;refine⟨DO f i.size,λk j=>?_⟩;have⟨a,b,c,d,e⟩:=h k j;exact⟨xCq,xCq,xCq,xCq,xCq⟩
theorem Y9(k:Int)(w:AU)(hr:Eh w):
  Calls prog 224 #[AB k] w (AN w (.agg #[.string (Q9 k),AB (Jb k),.bool (Zm k),.bool (Qq k),.bool (U4 k)])):=by
 by_cases h:0<=k/\k<14
 .obtain⟨m,rfl⟩:=Hh h.1;have f:m<14:=BS;obtain⟨q,hr⟩:=hr;have⟨a,b,c,d,e⟩:=hr m f;clear h hr;go_enter func224,ntmps224;go_wp2;refine BH (v:=.agg #[.string (Q9 m),AB (Jb m),.bool (Zm m),.bool (Qq m),.bool (U4 m)]) (by simp[results,results224,go_sem]) rfl ⟨rfl,?_⟩
  (repeat(first|exact BP _ _|assumption|refine Bi ?_ _|refine P5 ?_ _|refine Ud ?_|refine Ie ?_ _ _|refine Rj (DN _) ?_ _|refine Bf ?_ CB))
 .have hd:Q9 k=⟨#[]⟩/\Jb k=0/\Zm k=false/\Qq k=false/\U4 k=false:=by
   unfold Q9 Jb Zm Qq U4;refine⟨by rw[BQ BS],by rw[BQ BS,BQ BS,BQ BS,BQ BS],?_,?_,?_⟩
   .simp only[Bool.and_eq_false_iff,Bool.or_eq_false_iff,FU,DX];omega
   .simp only[Bool.or_eq_false_iff,DX];omega
   .simp only[Bool.or_eq_false_iff,DX];omega
  have i:=BZ hd;clear hd hr;go_enter func224,ntmps224
  go_wp2
  all_goals(have⟨q1,j,g,o,l⟩:=i.out)
  all_goals refine BH (v:=.agg #[.string ⟨#[]⟩,AB 0,.bool false,.bool false,.bool false]) (by simp[results,results224,go_sem]) rfl ⟨by rw[q1,j,g,o,l],?_⟩
  all_goals(repeat(first|exact BP _ _|assumption|refine Bi ?_ _|refine P5 ?_ _|refine Ud ?_|refine Ie ?_ _ _|refine Rj (DN _) ?_ _|refine Bf ?_ CB))
def lW(a:ByteArray)(b:Int)(c d e:Bool)(w:AU):(Instr.field 247 (.agg #[.string a,AB b,.bool c,.bool d,.bool e]) 1).run prog w=.ok (AB b) w:=BW
def lV(a:ByteArray)(b:Int)(c d e:Bool)(w:AU):(Instr.field 247 (.agg #[.string a,AB b,.bool c,.bool d,.bool e]) 2).run prog w=.ok (.bool c) w:=BW
def lT(a:ByteArray)(b:Int)(c d e:Bool)(w:AU):(Instr.field 247 (.agg #[.string a,AB b,.bool c,.bool d,.bool e]) 3).run prog w=.ok (.bool d) w:=BW
def lR(a:ByteArray)(b:Int)(c d e:Bool)(w:AU):(Instr.field 247 (.agg #[.string a,AB b,.bool c,.bool d,.bool e]) 4).run prog w=.ok (.bool e) w:=BW
theorem V1(k:Int)(w:AU)(hr:Eh w):
  Calls prog 228 #[AB k] w (AN w (AB (Jb k))):=by have b:=lW;go_enter func228,ntmps228;go_wp2_with(go_at_call 224;refine(Y9 _ _ hr).mo ?_;rintro e c⟨rfl,d⟩);go_ret;exact⟨rfl,Bw⟩
theorem Avy(n p:Int)(w:AU)(b:-9223372036854775808<=n)(c:n<=9223372036854775807):
  Calls prog 227 #[AB n,AB p] w λe w'=>e=.returned (.bool (Ii 12 n p))/\w'=w:=by
 go_enter func227,ntmps227;go_wp2;all_goals go_ret
 all_goals(refine⟨Ac ?_,rfl⟩)
 all_goals go_light
 all_goals try simp only[E4,DX,bne_iff_ne,bne_eq_false_iff_eq] at*
 all_goals(rw[FB];simp[Ii, *];try omega)
def zha {p:Prop}(h:p:=by
 refine wp_region_quiet_below BW BW ?_;repeat(go_big_quiet_step ((exact Calls.regrown_of (V1 _ _ (HR _ Bw)))))
 refine wpQuiet_nil ?_;intro _ hw';obtain⟨⟨dq,osq⟩,hw''⟩:=hw';subst hw'';go_wp2;go_ret;refine⟨Ac ?_,Bw⟩;go_light;simp only[DX] at*
 (rw[FB];simp[Ii, *];try omega)):p:=h
theorem Z3(k n p:Int)(w:AU)(hr:Eh w)(l:-9223372036854775808<=n)(j:n<=9223372036854775807):
  Calls prog 223 #[.agg #[AB k,AB n,AB p]] w (AN w (.bool (Ii k n p))):=by
 have HR:=BZ (λW(h:AO w W)=>hr.below h);clear hr;have b:(w.alloc (Obj.cells #[AB k,AB n,AB p] 153)).c (AL w 0)=some (AB k):=xAa;have f:(w.alloc (Obj.cells #[AB k,AB n,AB p] 153)).c (AL w 1)=some (AB n):=xAa;have d:(w.alloc (Obj.cells #[AB k,AB n,AB p] 153)).c (AL w 2)=some (AB p):=xAa;have s:=cell_regrown b;have u:=cell_regrown f;have q:=cell_regrown d;clear b f d;go_enter func223,ntmps223;go_wp2_with(go_at_call 227;refine(Avy _ _ _ l j).mo ?_;rintro e r⟨rfl,rfl⟩)
 rotate_right 1
 focus
  by_cases c:p=0
  .subst c
   by_cases i:0<=n
   .by_cases g:n<Jb k
    .refine wp_region_quiet_below BW BW ?_
     repeat(go_big_quiet_step ((exact Calls.regrown_of (V1 _ _ (HR _ Bw)))))
     refine wpQuiet_nil ?_;intro _ hw';obtain⟨⟨dq,osq⟩,hw''⟩:=hw';subst hw''
     go_wp2
     go_ret;refine⟨Ac ?_,Bw⟩;go_light;simp only[DX] at*
     (rw[FB];simp[Ii, *];try omega)
    .have m:decide (n<Jb k)=false:=by simpa using g
     exact zha
   .have o:decide (0<=n)=false:=by simpa using i
    exact zha
  .have t:(p==0)=false:=by simpa using c
   exact zha
 all_goals go_ret
 all_goals(refine⟨Ac ?_,Bw⟩)
 all_goals go_light
 all_goals try simp only[E4,DX] at*
 all_goals first|(subst k;rfl)|(rw[FB];simp[Ii, *];try omega)
theorem QY{k n p:Int}(h:Ii k n p=true):1<=k/\k<=13:=by
 by_cases c:k=11
 .omega
 by_cases d:k=12
 .omega
 by_cases b:k=13
 .omega
 have:=jW h c d b;omega
theorem jZ(k n p:Int):(Ii k n p && Zm k)=Rf k n p:=by
 cases h:Ii k n p
 .simp[Rf,h]
 have b:=QY h;rw[Rf,h,FB];simp[Zm];try omega
def zga {p:Prop}(h:p:=by
 go_wp2_with(first|(go_at_call 223;refine(Z3 _ _ _ _ (HR _ Bw) hn1 hn2).mo ?_;rw[h];rintro e w1⟨rfl,hb⟩;have⟨hc,hf⟩:=F7 hb)|(go_at_call 224;refine(Y9 _ _ (HR _ Bw)).mo ?_;rintro e w2⟨rfl,hb2⟩));all_goals go_ret
 all_goals(refine⟨Ac ?_,Bw⟩)
 all_goals (rw[<-HE.out,h];rfl)):p:=h
theorem Avx(k n p:Int)(w:AU)(hr:Eh w)(hn1:-9223372036854775808<=n)(hn2:n<=9223372036854775807):
  Calls prog 214 #[.agg #[AB k,AB n,AB p]] w (AN w (.bool (Rf k n p))):=by have b:=lV;have HR:=BZ (λW(h:AO w W)=>hr.below h);have HE:=BZ (jZ k n p);clear hr;cases h:Ii k n p;all_goals go_enter func214,ntmps214;exact zga
theorem yA(k n p:Int):(Ii k n p && Qq k)=Jc k n p:=by
 cases h:Ii k n p
 .simp[Jc,h]
 have b:=QY h;rw[Jc,h,FB];simp[Qq];try omega
theorem vp(k n p:Int)(w:AU)(hr:Eh w)(hn1:-9223372036854775808<=n)(hn2:n<=9223372036854775807):
  Calls prog 207 #[.agg #[AB k,AB n,AB p]] w (AN w (.bool (Jc k n p))):=by have b:=lT;have HR:=BZ (λW(h:AO w W)=>hr.below h);have HE:=BZ (yA k n p);clear hr;cases h:Ii k n p;all_goals go_enter func207,ntmps207;exact zga
theorem Awg(k n p:Int):(Ii k n p && U4 k)=J5 k n p:=by
 cases h:Ii k n p
 .simp[J5,h]
 have b:=QY h;rw[J5,h,FB];simp[U4];try omega
theorem y8(k n p:Int)(w:AU)(hr:Eh w)(hn1:-9223372036854775808<=n)(hn2:n<=9223372036854775807):
  Calls prog 208 #[.agg #[AB k,AB n,AB p]] w (AN w (.bool (J5 k n p))):=by have b:=lR;have HR:=BZ (λW(h:AO w W)=>hr.below h);have HE:=BZ (Awg k n p);clear hr;cases h:Ii k n p;all_goals go_enter func208,ntmps208;exact zga
def KY(w:AU)(b o:Nat)(l:ζ):Prop:=∀i(h:i<l.length),w.cell? (AK b (o+i))=some (AB l[i])
theorem Az8(b cap:Nat)(l:ζ)(v:Int)(w:AU)(g:KY w b 0 l)(hl:l.length<=1000):
  Calls prog 233 #[AE (some (AK b 0)) l.length cap,AB v] w λe w'=>(∃r,e=.returned (AB r)/\(0<=r↔v∈l))/\w'=w:=by
 have s:=BZ g;clear g;go_enter func233,ntmps233;go_wp2;go_loop [8] (λi=>∃k:Nat,k<=l.length/\i=AB k/\v∉l.take k) (λi=>l.length - (intOf i).toNat);case atStart=>exact⟨0,BS,rfl,BU⟩
 case round=>
  obtain⟨k,t,rfl,j⟩:=hrel;have m:=BZ j;clear j;by_cases f:k<l.length;{have o:=s k f;rw[EF]at o;by_cases c:v=l[k];{have q:(v==l[k])=true:=(by simpa using c);have d:Hid (v∈l):=(by show _∈_;rw[c];exact DY f);clear c;go_wp2;go_ret;exact⟨⟨k,rfl,λ_=>d.out,λ_=>by omega⟩,rfl⟩};have q:(v==l[k])=false:=(by simpa using c);have d:Hid (v∉l.take (k+1)):=(by show _∉_;rw[EK f,FZ];rintro(h|h);{exact m h};exact c C4);clear c;go_wp2;exact⟨⟨k+1,BS,by go_num,d.out⟩,xAb⟩}
  .have d:Hid (v∉l):=by
    show _∉_
    have:=m.out
    rwa [E0 BS]at this
   go_wp2
   go_ret;exact⟨⟨-1,rfl,λh=>by omega,λh=>absurd h d.out⟩,rfl⟩
theorem vl(b cap:Nat)(l:ζ)(v:Int)(w:AU)(c:KY w b 0 l)(hl:l.length<=1000):
  Calls prog 229 #[AE (some (AK b 0)) l.length cap,AB v] w λe w'=>e=.returned (.bool (decide (v∈l)))/\w'=w:=by have f:=BZ c;clear c;go_enter func229,ntmps229;go_wp2_with(go_at_call 233;refine(Az8 b cap l v _ f hl).mo ?_;rintro e g⟨⟨r,rfl,d⟩,rfl⟩);go_ret;exact⟨Ac (by first|rfl|exact decide_eq_decide.2 d),rfl⟩
theorem U9(d:Stil.DR)(b cap:Nat)(l:ζ)(w:AU)(hr:Eh w)(c:KY w b 0 l)(m:b<w.heap.size)(hl:l.length<=1000)(k:-9223372036854775808<=d.n)(j:d.n<=9223372036854775807):
  Calls prog 225 #[.agg #[AB d.kind,AB d.n,AB d.p],AE (some (AK b 0)) l.length cap] w (AN w (.bool (d.ok && decide (d.kind∈l)))):=by
 have f:=BZ (λW(h:AO w W)=>hr.below h);have o:Hid (∀W,AO w W->KY W b 0 l):=λW h i hi=>by rw[(F7 h).1 _ _ m];exact c i hi
 clear hr c;cases h:d.ok;all_goals
  go_enter func225,ntmps225;go_wp2_with(first|(go_at_call 223;refine(Z3 _ _ _ _ (f _ Bw) k j).mo ?_;rw[show Ii d.kind d.n d.p=_ from h];rintro e r⟨rfl,g⟩;have⟨t,q⟩:=F7 g)|(go_at_call 229;refine(vl b cap l _ _ (o _ Bw) hl).mo ?_;rintro e s⟨rfl,rfl⟩));all_goals go_ret
  all_goals exact⟨rfl,Bw⟩
def F5(w:AU)(b:Nat):Nat->ζ->Prop
 |_,[]=>True
 |o,x::r=>w.cell? (AK b o)=some (AB x)/\F5 w b (o+1) r
theorem Dh{w:AU}{b:Nat}:∀{l:ζ}{o:Nat},F5 w b o l->KY w b o l
 |[],_,_=>λi hi=>absurd hi BU
 |x::r,o,h=>λi hi=>by
  cases i with
  |zero=>exact h.1
  |succ k=>
   have:=Dh h.2 k yEh
   rw[show o+(k+1)=o+1+k from BS];simpa using this
theorem Bap(d:Stil.DR)(w:AU)(hr:Eh w)(f:-9223372036854775808<=d.n)(c:d.n<=9223372036854775807):
  Calls prog 215 #[.agg #[AB d.kind,AB d.n,AB d.p]] w (AN w (.bool (d.ok && decide (d.kind∈([5]:ζ))))):=by have b:=BZ (λW(h:AO w W)=>hr.below h);clear hr;go_enter func215,ntmps215;go_wp2_with(go_at_call 225;refine(U9 d _ _ [5] _ (b _ Bw) (Dh xAf) BU BU f c).mo ?_;rintro e g⟨rfl,i⟩);go_ret;exact⟨Ac BU,Bw⟩
theorem Ban(d:Stil.DR)(w:AU)(hr:Eh w)(f:-9223372036854775808<=d.n)(c:d.n<=9223372036854775807):
  Calls prog 221 #[.agg #[AB d.kind,AB d.n,AB d.p]] w (AN w (.bool (d.ok && decide (d.kind∈([4]:ζ))))):=by have b:=BZ (λW(h:AO w W)=>hr.below h);clear hr;go_enter func221,ntmps221;go_wp2_with(go_at_call 225;refine(U9 d _ _ [4] _ (b _ Bw) (Dh xAf) BU BU f c).mo ?_;rintro e g⟨rfl,i⟩);go_ret;exact⟨Ac BU,Bw⟩
theorem Bam(d:Stil.DR)(w:AU)(hr:Eh w)(f:-9223372036854775808<=d.n)(c:d.n<=9223372036854775807):
  Calls prog 209 #[.agg #[AB d.kind,AB d.n,AB d.p]] w (AN w (.bool (d.ok && decide (d.kind∈([7]:ζ))))):=by have b:=BZ (λW(h:AO w W)=>hr.below h);clear hr;go_enter func209,ntmps209;go_wp2_with(go_at_call 225;refine(U9 d _ _ [7] _ (b _ Bw) (Dh xAf) BU BU f c).mo ?_;rintro e g⟨rfl,i⟩);go_ret;exact⟨Ac BU,Bw⟩
theorem Bas(d:Stil.DR)(w:AU)(hr:Eh w)(f:-9223372036854775808<=d.n)(c:d.n<=9223372036854775807):
  Calls prog 222 #[.agg #[AB d.kind,AB d.n,AB d.p]] w (AN w (.bool (d.ok && decide (d.kind∈([8]:ζ))))):=by have b:=BZ (λW(h:AO w W)=>hr.below h);clear hr;go_enter func222,ntmps222;go_wp2_with(go_at_call 225;refine(U9 d _ _ [8] _ (b _ Bw) (Dh xAf) BU BU f c).mo ?_;rintro e g⟨rfl,i⟩);go_ret;exact⟨Ac BU,Bw⟩
theorem Baq(d:Stil.DR)(w:AU)(hr:Eh w)(f:-9223372036854775808<=d.n)(c:d.n<=9223372036854775807):
  Calls prog 211 #[.agg #[AB d.kind,AB d.n,AB d.p]] w (AN w (.bool (d.ok && decide (d.kind∈([9]:ζ))))):=by have b:=BZ (λW(h:AO w W)=>hr.below h);clear hr;go_enter func211,ntmps211;go_wp2_with(go_at_call 225;refine(U9 d _ _ [9] _ (b _ Bw) (Dh xAf) BU BU f c).mo ?_;rintro e g⟨rfl,i⟩);go_ret;exact⟨Ac BU,Bw⟩
theorem Bao(d:Stil.DR)(w:AU)(hr:Eh w)(f:-9223372036854775808<=d.n)(c:d.n<=9223372036854775807):
  Calls prog 212 #[.agg #[AB d.kind,AB d.n,AB d.p]] w (AN w (.bool (d.ok && decide (d.kind∈([10]:ζ))))):=by have b:=BZ (λW(h:AO w W)=>hr.below h);clear hr;go_enter func212,ntmps212;go_wp2_with(go_at_call 225;refine(U9 d _ _ [10] _ (b _ Bw) (Dh xAf) BU BU f c).mo ?_;rintro e g⟨rfl,i⟩);go_ret;exact⟨Ac BU,Bw⟩
theorem rO(d:Stil.DR)(w:AU)(hr:Eh w)(f:-9223372036854775808<=d.n)(c:d.n<=9223372036854775807):
  Calls prog 218 #[.agg #[AB d.kind,AB d.n,AB d.p]] w (AN w (.bool (d.ok && decide (d.kind∈([2,3]:ζ))))):=by have b:=BZ (λW(h:AO w W)=>hr.below h);clear hr;go_enter func218,ntmps218;go_wp2_with(go_at_call 225;refine(U9 d _ _ [2,3] _ (b _ Bw) (Dh xAf) BU BU f c).mo ?_;rintro e g⟨rfl,i⟩);go_ret;exact⟨Ac BU,Bw⟩
theorem pS(d:Stil.DR)(w:AU)(hr:Eh w)(f:-9223372036854775808<=d.n)(c:d.n<=9223372036854775807):
  Calls prog 219 #[.agg #[AB d.kind,AB d.n,AB d.p]] w (AN w (.bool (d.ok && decide (d.kind∈([2,3,4]:ζ))))):=by have b:=BZ (λW(h:AO w W)=>hr.below h);clear hr;go_enter func219,ntmps219;go_wp2_with(go_at_call 225;refine(U9 d _ _ [2,3,4] _ (b _ Bw) (Dh xAf) BU BU f c).mo ?_;rintro e g⟨rfl,i⟩);go_ret;exact⟨Ac BU,Bw⟩
theorem ie(d:Stil.DR)(w:AU)(hr:Eh w)(f:-9223372036854775808<=d.n)(c:d.n<=9223372036854775807):
  Calls prog 220 #[.agg #[AB d.kind,AB d.n,AB d.p]] w (AN w (.bool (d.ok && decide (d.kind∈([2,3,4,7,8]:ζ))))):=by have b:=BZ (λW(h:AO w W)=>hr.below h);clear hr;go_enter func220,ntmps220;go_wp2_with(go_at_call 225;refine(U9 d _ _ [2,3,4,7,8] _ (b _ Bw) (Dh xAf) BU BU f c).mo ?_;rintro e g⟨rfl,i⟩);go_ret;exact⟨Ac BU,Bw⟩
theorem Avt(d:Stil.DR)(w:AU)(hr:Eh w)(f:-9223372036854775808<=d.n)(c:d.n<=9223372036854775807):
  Calls prog 210 #[.agg #[AB d.kind,AB d.n,AB d.p]] w (AN w (.bool (d.ok && decide (d.kind∈([11]:ζ)) && decide (0<=d.n)))):=by
 have b:=BZ (λW(h:AO w W)=>hr.below h);clear hr;cases h:(d.ok && decide (d.kind∈([11]:ζ)));all_goals
  go_enter func210,ntmps210;go_wp2_with(go_at_call 225;refine(U9 d _ _ [11] _ (b _ Bw) (Dh xAf) BU BU f c).mo ?_;rw[h];rintro e k⟨rfl,g⟩;have⟨j,i⟩:=F7 g);all_goals go_ret
  all_goals exact⟨Ac BU,Bw⟩
def mg:(prog.info? 153).map (λi=>(i.zero,i.size,i.bytes))=some (some (.agg #[AB 0,AB 0,AB 0]),3,24):=BW
def Uz(d:Stil.DR):Θ:=[AB d.kind,AB d.n,AB d.p]
def Di(ds:Ψ):Θ:=ds.flatMap Uz
def Rw(ds:Ψ):(Di ds).length=ds.length*3:=by induction ds with|nil=>rfl|cons d r b=>simp[Di,Uz]at b⊢;omega
def si(ds:Ψ)(d:Stil.DR):Di (ds++[d])=Di ds++Uz d:=by simp[Di]
theorem Sr(ds:Ψ):∀(i:Nat)(h:i<ds.length),(Di ds)[i*3]?=some (AB ds[i].kind)/\(Di ds)[i*3+1]?=some (AB ds[i].n)/\(Di ds)[i*3+2]?=some (AB ds[i].p):=by
 induction ds with
 |nil=>intro i h;simp at h
 |cons d r c=>
  intro i h;have e:Di (d::r)=AB d.kind::AB d.n::AB d.p::Di r:=rfl;cases i with
  |zero=>rw[e];simp|succ i=>have b:i<r.l:=C4;rw[e];have:=c i b;have f:(i+1)*3=i*3+3:=BS;rw[f];simpa using this
def add_plain(g j:Nat):((AK g 0):Ab).add j=(AK g j):=by unfold Addr.add;split<;>simp_all
theorem Jg{w:AU}{base:Nat}(h:w.ownsRow base e size v n xs)(f:0<n):∃g cap,v=AE (some (AK g 0)) n cap/\base<=g/\g<w.heap.size/\n<=cap/\∀j u,xs[j]?=some u->w.cell? (AK g j)=some u:=by
 have c:=h.2;rcases c with⟨_,i⟩|⟨g,cap,cur,hv,d,_,b,_⟩
 .omega
 refine⟨g,cap,hv,d,(h.lt g yFd).2,b,λj u hu=>?_⟩;have:=h.cells (g:=g) yFd j u hu;rwa [add_plain]at this
theorem Aq.of_owns{w:AU}{base:Nat}{ds:Ψ}(h:w.ownsRow base 153 3 v ds.length (Di ds)):Aq w v ds:=by
 by_cases hd:ds.l=0
 .have d:=BL.1 hd;subst d;rcases h.2 with⟨l,_⟩|⟨g,cap,cur,b,_⟩;{exact⟨none,0,l,λi hi=>by simp at hi⟩};exact⟨_,cap,b,λi hi=>by simp at hi⟩
 have⟨g,cap,b,_,m,_,c⟩:=Jg h BS;refine⟨_,cap,b,λi hi=>⟨g,0,rfl,m,?_⟩⟩;have⟨f,k,j⟩:=Sr ds i hi;unfold Jr;rw[EF];exact⟨c _ _ f,c _ _ k,c _ _ j⟩
theorem ownsRow_below{w:AU}{base:Nat}(h:w.ownsRow base e size v n xs)(f:AO w w'):w'.ownsRow base e size v n xs:=by
 refine⟨h.1,?_⟩;rcases h.2 with i|⟨g,cap,cur,hv,d,b,c⟩
 .exact Or.inl i
 have:=(h.lt g yFd).2;exact Or.inr ⟨g,cap,cur,hv,d,by rwa[f.block g this],c⟩
theorem Ub(W:AU)(cs:Θ)(t:AZ)(b:Nat)(c:b=W.heap.size):∀j u,cs[j]?=some u->(W.alloc (.cells cs.toArray t)).cell? (((AK b 0):Ab).add j)=some u:=by subst c;intro j u d;rw[add_plain,World.cell?_alloc_at _ _ _ _ rfl];simpa using d
theorem sK{P:AY}{ops:Array Oper}{o:Oper}{a:Act}{w:AU}{K:Act->World->Prop}{Q:Exit->Act->World->Prop}{E:Prop}
  (hg:o.guard=none) (s x:Operand) (t:AZ) (h:o.op=.call {callee:=.builtin .append,args:=#[s,x],argTypes:=#[t,t]})
  (base:Nat) (e:AZ) (i:TypeInfo) (z:AW) (size bytes:Nat) (H:P.underlying t=some (.slice e)) (hi:P.info? e=some i) (y:i.zero=some z)
  (r:i.size=size) (F:i.bytes=bytes) (I:z.cells.size=size) (l:0<size)
  (v:AW) (n:Nat) (xs:Θ) (C:a.eval s=v) (B:w.ownsRow base e size v n xs)
  (d:Ab) (m c:Nat) (news:Θ) (hx:a.eval x=AE (some d) m c) (hl:news.length=m*size) (g:∀j u,news[j]?=some u->w.cell? (d.add j)=some u) (h1:∀u∈news,u.oneCell'=true)
  (A:n+m<=maxLen) (p:(n+m)*bytes<=140737488355328) (k:base<=w.heap.size)
  (D:∀b w',w'.ownsRow base e size b (n+m) (xs++news)->w.grownBy w' v.ownBlock->K (a.put o.dst b) w'):
  if Region.wanted o (yielded ops a.tmps)=true then Oper.wp P o a w K Q else E:=by have G:Region.wanted o (yielded ops a.tmps)=true:=xBx;rw[BR G];exact wp_append_own w s x t h base e i z size bytes H hi y r F I l v n xs C B d m c news hx hl g h1 A p k λb w' f q _=>D b w' f q
theorem tP(ds:Ψ):∀u∈Di ds,u.oneCell'=true:=by intro u hu;simp only[Di,List.mem_flatMap,Uz]at hu;obtain⟨d,_,hd⟩:=hu;simp at hd;rcases hd with rfl|rfl|rfl<;>rfl
theorem jT(d e:Stil.DR):(d=e)↔(d.kind=e.kind/\d.n=e.n/\d.p=e.p):=by cases d;cases e;simp
