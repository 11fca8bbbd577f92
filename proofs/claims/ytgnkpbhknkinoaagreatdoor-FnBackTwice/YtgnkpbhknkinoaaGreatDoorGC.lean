import Derived.Test.YtgnkpbhknkinoaaGreatDoorHid0
import Derived.Lib.SmallJoins
import Derived.Deep.RegionLaw
import Derived.Deep.DeepCutAuto
set_option linter.defProp false
set_option maxHeartbeats 4000000
set_option maxRecDepth 100000
namespace Go.Proofs.YtgnkpbhknkinoaaGreatDoor
open Tryz Stil Go.RowKit Go.Sort Go.BigFrame
section
variable {W a w':AU}{n:Nat}{v:AW}
theorem Jq(op:Int)(w:AU):
  Calls prog 67 #[AB op] w λe w'=>e=.returned (AB (Stil.arity op))/\w'=w:=by
 go_enter func67,ntmps67;go_wp2;all_goals go_ret
 all_goals(refine⟨Fg ?_,rfl⟩;go_light;simp only[E0,DV] at*;unfold Stil.arity;first|(simp[*];done)|(repeat(first|rw[BR BS]|rw[BQ BS])))
theorem KG(k n p a b:Int)(w:AU)(d:-9223372036854775808<=n)(f:n<=9223372036854775807):
  Calls prog 118 #[.agg #[AB k,AB n,AB p],AB a,AB b] w (AN w (.bool (N8 k n p a b))):=by
 cases h:Ia k n p;all_goals
  go_enter func118,ntmps118;go_wp2_with(go_at_call 154;refine(K6 _ _ _ _ d f).mo ?_;rintro e w'⟨rfl,c⟩;have⟨i,g⟩:=F8 c);all_goals go_ret
  all_goals(refine⟨Ad ?_,Ub CB⟩)
  all_goals go_light
  all_goals(rw[N8,h,E6];clear h;simp[*])
def Bz{w:AU}(h:AO w a)(o:Obj):AO w (a.alloc o):=h.alloc h.size o
def CN{a b:Nat}(h:a<b:=by first|with_reducible assumption|(simp;done)|(simp;omega)):a<b:=h
def B1{w:AU}{a:Ab}{v:Bool}(hb:Below n w W)(h1:a.block<n:=by simp)(h2:w.frozen? a=v:=by simp[go_sem]):W.frozen? a=v:=(hb.frozen h1).tr h2
def B0{w:AU}{a:Ab}{v:Option AW}(hb:Below n w W)(h1:a.block<n:=by simp)(h2:w.cell? a=v:=by simp[go_sem]):W.cell? a=v:=(hb.cell h1).tr h2
def Pq{w:AU}(h:AO w a)(n:Nat):AO w (a.drewN n):=below_drewN h n
def Tz{w:AU}(h:AO w a):AO w a.drew:=h.drew
def Bd{w b:AU}(h:AO w a)(k:AO a b):AO w b:=h.tr (k.mo h.size)
def V3{w:AU}{p:Ab}(b:w.heap.size<=p.block)(h:AO w a)(v:AW):AO w (a.setCell p v):=h.s b v
def I9{w:AU}(h:AO w a)(d:Nat)(os:Array Obj):AO w (grow (redrawn a d) os):=Bd h (below_regrown a d os)
def Bt{w:AU}(h:Below n w W:=by(repeat(first|exact BP _ _|assumption|refine Bz ?_ _|refine Pq ?_ _|refine Tz ?_|refine I9 ?_ _ _|refine V3 (DK _) ?_ _|refine Bd ?_ (by assumption)))):Below n w W:=h
def BV{w:AU}(h:Below n w W:=by(repeat(first|with_reducible exact BP _ _|with_reducible assumption|with_reducible refine V3 (by first|exact DK _|(simp;done)|(simp;omega)|omega) ?_ _|with_reducible refine Bz ?_ _|with_reducible refine Pq ?_ _|with_reducible refine Tz ?_|with_reducible refine I9 ?_ _ _|with_reducible refine Bd ?_ (by assumption)))):Below n w W:=h
def cr{w:AU}{b:Nat}(h:b<w.heap.size)(k:AO w a):b<a.heap.size:=DL h k.size
def Axi{w b:AU}{o:Obj}(c:Below ((w.alloc o).drewN n).heap.size ((w.alloc o).drewN n) b):w.heap.size<b.heap.size:=xAi
def J3(w:AU)(b o:Nat)(d:Stil.DN):Prop:=w.cell? (AK b o)=some (AB d.kind)/\w.cell? (AK b (o+1))=some (AB d.n)/\w.cell? (AK b (o+2))=some (AB d.p)
def Ar(w:AU)(v:AW)(ds:List Stil.DN):Prop:=∃a cap,v=AE a ds.length cap/\∀i(h:i<ds.length),∃b o,a=some (AK b o)/\b<w.heap.size/\J3 w b (o+i*3) ds[i]
theorem J3.below{w:AU}{b o:Nat}{d:Stil.DN}(h:J3 w b o d)(f:AO w w')(c:b<w.heap.size):J3 w' b o d:=by unfold J3 at*;rwa[f.cell (p:=(AK b o)) c,f.cell (p:=(AK b (o+1))) c,f.cell (p:=(AK b (o+2))) c]
theorem Ar.below{w:AU}{ds:List Stil.DN}(h:Ar w v ds)(d:AO w w'):Ar w' v ds:=by obtain⟨a,cap,g,j⟩:=h;refine⟨a,cap,g,λi hi=>?_⟩;have⟨b,o,f,c,hd⟩:=j i hi;exact⟨b,o,f,DL c d.size,hd.below d c⟩
theorem Ar.O{w:AU}{d:Stil.DN}(h:Ar w v [d]):∃b o cap,v=AE (some (AK b o)) 1 cap/\b<w.heap.size/\J3 w b o d:=by obtain⟨a,cap,f,g⟩:=h;obtain⟨b,o,rfl,c,hd⟩:=g 0 BU;exact⟨b,o,cap,f,c,hd⟩
theorem Ar.two{w:AU}{d e:Stil.DN}(h:Ar w v [d,e]):∃b o cap,v=AE (some (AK b o)) 2 cap/\b<w.heap.size/\J3 w b o d/\J3 w b (o+3) e:=by obtain⟨a,cap,j,f⟩:=h;obtain⟨b,o,rfl,g,hd⟩:=f 0 BU;have⟨k,l,c,_,i⟩:=f 1 BU;simp only[E9,Addr.mk.injEq,Hh]at c;obtain⟨rfl,rfl⟩:=c;exact⟨b,o,cap,j,g,hd,i⟩
def zLa{p:Prop}(h:p:=by go_enter func116,ntmps116;go_wp2;go_quiet (exact Calls.quiet_of_same (Jq _ _));go_wp2;go_ret;exact⟨rfl,below_drewN (Aa _ _) _⟩):p:=h
theorem rE(op:Int)(a:Option Ab)(len cap:Nat)(w:AU)(h:op<1\/10<op\/(len:Int)≠Stil.arity op)(_hl:len<=9223372036854775807):
  Calls prog 116 #[.agg #[AB op,AE a len cap]] w (AN w (.bool false)):=by
 by_cases b:op<1
 .have d:decide (op<1)=true:=by simpa using b
  exact zLa
 have d:decide (op<1)=false:=by simpa using b
 by_cases c:10<op
 .have f:decide (10<op)=true:=by simpa using c
  exact zLa
 have f:decide (10<op)=false:=by simpa using c
 have g:((len:Int) !=Stil.arity op)=true:=xBz;clear h;go_enter func116,ntmps116;go_wp2;go_quiet (exact Calls.quiet_of_same (Jq _ _));go_wp2;go_ret;exact⟨rfl,below_drewN (Aa _ _) _⟩
theorem qk(op:Int)(b o cap:Nat)(d:Stil.DN)(w:AU)(h1:1<=op)(q:op<=2)(i:b<w.heap.size)(f:J3 w b o d)(c:-9223372036854775808<=d.n)(g:d.n<=9223372036854775807):
  Calls prog 116 #[.agg #[AB op,AE (some (AK b o)) 1 cap]] w (AN w (.bool d.isBit)):=by
 obtain⟨l,t,j⟩:=f;have r:decide (op<1)=false:=Bw;have s:decide (10<op)=false:=Bw;have k:Stil.arity op=1:=by unfold Stil.arity;rw[BR BS]
 go_enter func116,ntmps116;go_wp2;go_quiet (exact Calls.quiet_of_same (Jq _ _));go_wp2_with(go_at_call 153;refine(Yx _ _ _ _ c g).mo ?_;rintro e w'⟨rfl,m⟩);go_ret;exact⟨rfl,Bt⟩
theorem rB(op:Int)(b o cap:Nat)(d f:Stil.DN)(w:AU)(h1:3<=op)(C:op<=4)(r:b<w.heap.size)(u:J3 w b o d)(x:J3 w b (o+3) f)(g:-9223372036854775808<=d.n)(i:d.n<=9223372036854775807)(k:-9223372036854775808<=f.n)(j:f.n<=9223372036854775807):
  Calls prog 116 #[.agg #[AB op,AE (some (AK b o)) 2 cap]] w (AN w (.bool (d.isBit && f.ok && f.kind==5))):=by
 obtain⟨J,M,G⟩:=u;obtain⟨B,F,D⟩:=x;have O:b<w.z+1:=BS;have K:decide (op<1)=false:=Bw;have L:decide (10<op)=false:=Bw;have H:Stil.arity op=2:=xAg;have A:decide (op<=2)=false:=Bw;unfold Stil.DN.isBit Stil.DN.ok;cases E:Q7 d.kind d.n d.p
 .go_enter func116,ntmps116;go_wp2;go_quiet (exact Calls.quiet_of_same (Jq _ _));go_wp2_with(go_at_call 153;refine(Yx _ _ _ _ g i).mo ?_;rintro e w'⟨rfl,c⟩;have⟨l,q⟩:=F8 c);go_ret;exact⟨rfl,Bt⟩
 cases I:Ia f.kind f.n f.p
 .go_enter func116,ntmps116;go_wp2;go_quiet (exact Calls.quiet_of_same (Jq _ _));go_wp2_with(first|(go_at_call 153;refine(Yx _ _ _ _ g i).mo ?_;rintro e w'⟨rfl,c⟩;have⟨l,q⟩:=F8 c)|(go_at_call 154;refine(K6 _ _ _ _ k j).mo ?_;rintro e s⟨rfl,m⟩));go_ret;exact⟨Ad BU,Bt⟩
 go_enter func116,ntmps116;go_wp2;go_quiet (exact Calls.quiet_of_same (Jq _ _));go_wp2_with(first|(go_at_call 153;refine(Yx _ _ _ _ g i).mo ?_;rintro e w'⟨rfl,c⟩;have⟨l,q⟩:=F8 c;have t:=Axi c;have y:=Nat.lt_trans r t)|(go_at_call 154;refine(K6 _ _ _ _ k j).mo ?_;rintro e s⟨rfl,m⟩;have⟨z,N⟩:=F8 m));go_ret;exact⟨Ad BU,Bt⟩
theorem qn(op:Int)(b o cap:Nat)(d f:Stil.DN)(w:AU)(h1:5<=op)(y:op<=10)(r:b<w.heap.size)(l:J3 w b o d)(q:J3 w b (o+3) f)(s:-9223372036854775808<=d.n)(A:d.n<=9223372036854775807)(B:-9223372036854775808<=f.n)(u:f.n<=9223372036854775807):
  Calls prog 116 #[.agg #[AB op,AE (some (AK b o)) 2 cap]] w (AN w (.bool (d.isWhole && f.isWhole || d.isReal && f.isReal))):=by
 obtain⟨G,J,E⟩:=l;obtain⟨x,C,z⟩:=q;have K:b<w.z+1:=BS;have H:decide (op<1)=false:=Bw;have I:decide (10<op)=false:=Bw;have F:Stil.arity op=2:=xAg;have t:decide (op<=2)=false:=Bw;have D:decide (op<=4)=false:=Bw;unfold Stil.DN.isWhole Stil.DN.isReal;go_enter func116,ntmps116;go_wp2;go_quiet (exact Calls.quiet_of_same (Jq _ _));go_wp2_with(first|(go_at_call 119;refine(Uk _ _ _ _ CB CB).mo ?_;rintro e g⟨rfl,c⟩;have⟨k,m⟩:=F8 c;have j:w.z<g.z:=DL B5 c.size;have i:=DL B5 c.size)|(go_at_call 120;refine(Wv _ _ _ _ CB CB).mo ?_;rintro e g⟨rfl,c⟩;have⟨k,m⟩:=F8 c;have j:w.z<g.z:=DL B5 c.size;have i:=DL B5 c.size));all_goals go_ret
 all_goals(refine⟨Ad ?_,Bt⟩)
 all_goals go_light
 all_goals simp[*]
theorem WX(op:Int)(v:AW)(ds:List Stil.DN)(w:AU)(j:Ar w v ds)(i:∀d∈ds,d.fits)(hl:ds.length<=9223372036854775807):
  Calls prog 116 #[.agg #[AB op,v]] w (AN w (.bool (Dc op ds))):=by
 have c:∀(h:op<1\/10<op\/(ds.l:Int)≠Stil.arity op),Dc op ds=false->Calls prog 116 #[.agg #[AB op,v]] w (AN w (.bool (Dc op ds))):=by intro h u;obtain⟨a,cap,rfl,_⟩:=j;rw[u];exact rE op a ds.l cap w h hl
 by_cases h1:op<1\/10<op
 .exact c BS (by unfold Dc;rw[BR h1])
 by_cases k:op<=2
 .have ha:Stil.arity op=1:=by unfold Stil.arity;rw[BR BS]
  match ds,j,i,hl,c with
  |[],_,_,_,c=>exact c yEd yDg|[d],j,i,_,_=>obtain⟨b,o,cap,rfl,l,hd⟩:=j.O;have:=(i d BU).2.1;have e:Dc op [d]=d.isBit:=xBx;rw[e];exact qk op b o cap d w BS k l hd this.1 this.2
  |[d,f],_,_,_,c=>exact c yEd xBx|d::f::g::r,_,_,_,c=>exact c (by right;right;simp[ha];omega) yDg
 have ha:Stil.arity op=2:=by unfold Stil.arity;rw[BQ BS,BQ BS,BR BS]
 match ds,j,i,hl,c with
 |[],_,_,_,c=>exact c yEd yDg|[d],_,_,_,c=>exact c yEd xBx
 |[d,f],j,i,_,_=>
  obtain⟨b,o,cap,rfl,l,hd,t⟩:=j.two;have q:=(i d BU).2.1;have m:=(i f BU).2.1;by_cases s:op<=4;{have e:Dc op [d,f]=(d.isBit && f.ok && f.kind==5):=(by unfold Dc;rw[BQ h1];simp[k,s]);rw[e];exact rB op b o cap d f w BS s l hd t q.1 q.2 m.1 m.2};have e:Dc op [d,f]=(d.isWhole && f.isWhole || d.isReal && f.isReal):=by unfold Dc;rw[BQ h1];simp[k,s]
  rw[e];exact qn op b o cap d f w BS BS l hd t q.1 q.2 m.1 m.2
 |d::f::g::r,_,_,_,c=>exact c (by right;right;simp[ha];omega) yDg
def zWa{p:Prop}(h:p:=by refine⟨⟨k+1,BS,by go_num,by rw[HC.out,HR.out];rfl,?_⟩,by simp[intOf];omega⟩;exact hB.tr (hb.mo hz)):p:=h
theorem ol(op:Int)(b o cap:Nat)(d:Stil.DN)(r:List Stil.DN)(w:AU)(I:b<w.heap.size)(hl:r.length<=100)
  (u:∀i(h:i<(d::r).length),J3 w b (o+i*3) (d::r)[i]) (t:∀x∈d::r,x.fits):
  Calls prog 121 #[.agg #[AB op,AE (some (AK b o)) (r.length+1) cap]] w (AN w (.bool (Gk op (d::r)))):=by
 have U:b<w.heap.size+1:=BS;have⟨D,H,N⟩:=u 0 BU;simp only[GZ,IL,II]at D H N;have⟨J,L⟩:=(t d BU).2.1;cases M:N8 d.kind d.n d.p 9 10
 .have m:Hid (Gk op (d::r)=false):=by show _=_;simp only[Gk,Stil.DN.kindIs,M];rfl
  clear u t;go_enter func121,ntmps121;go_wp2_with(first|(go_at_call 118;refine(KG _ _ _ _ _ _ J L).mo ?_;rintro e z⟨rfl,hb⟩;have⟨g,j⟩:=F8 hb;have f:w.heap.size<z.heap.size:=DL B5 hb.size;have c:=DL B5 hb.size));go_ret;exact⟨Ad (by rw[m.out]),Bt⟩
 cases Q:d.kind==9
 .have m:Hid (Gk op (d::r)=(Oe false r && (op !=35))):=by show _=_;simp only[Gk,Stil.DN.kindIs,M,Q];simp
  have P:=BX u;have O:=BX t;clear u t;go_enter func121,ntmps121;go_wp2_with(first|(go_at_call 118;refine(KG _ _ _ _ _ _ J L).mo ?_;rintro e z⟨rfl,hb⟩;have⟨g,j⟩:=F8 hb;have f:w.heap.size<z.heap.size:=DL B5 hb.size;have c:=DL B5 hb.size));clear g j f c;go_loopw [4] (λi wr=>∃k:Nat,k<=r.length/\i=AB ((k:Int)+1)/\Oe false r=Oe false (r.drop k)/\Below (w.heap.size+1) (w.alloc (.cells #[AB op,AE (some (AK b o)) (r.length+1) cap] 53)) wr) (λi _=>r.length+1 - (intOf i).toNat);case atStart=>exact⟨0,BS,rfl,rfl,hb.mo BU⟩
  case round=>clear hb;obtain⟨k,R,rfl,G,hB⟩:=hrel;have HC:=BX G;clear G D H N;have hz:w.heap.size<wr.heap.size:=xAp;have D:wr.c (AL w 0)=some (AB op):=B0 hB;have S:wr.f (AL w 0)=false:=B1 hB;have H:wr.c (AL w 1)=some (AE (some (AK b o)) (r.length+1) cap):=B0 hB;have T:wr.f (AL w 1)=false:=B1 hB;have y:=(Aa _ _).tr (hB.mo BS);have c:=cr I y;by_cases K:k<r.length;{have⟨F,A,E⟩:=(P (k+1) Bw).below y I;(simp only[MX]at F A E;have⟨q,l⟩:=(O r[k] BU).2.1;have HR:Hid (Oe false (r.drop k)=(Jy r[k].kind r[k].n r[k].p && Oe false (r.drop (k+1)))):=by show(r.drop k).all _=_;rw[GH K,List.all_cons];rfl);have⟨x,B⟩:=AA (r[k]);rw[<-B]at F A E q l HR;clear B;cases C:Jy x.kind x.n x.p;{rw[C]at HR;go_wp2_with(first|(go_at_call 120;refine(Wv _ _ _ _ q l).mo ?_;rintro e s⟨rfl,hb⟩;have⟨g,j⟩:=F8 hb;have f:w.heap.size<s.heap.size:=DL B5 hb.size;have c:=DL B5 hb.size));go_ret;exact⟨Ad (by rw[m.out,HC.out,HR.out];rfl),Bt⟩};rw[C]at HR;go_wp2_with(first|(go_at_call 120;refine(Wv _ _ _ _ q l).mo ?_;rintro e s⟨rfl,hb⟩;have⟨g,j⟩:=F8 hb;have f:w.heap.size<s.heap.size:=DL B5 hb.size;have c:=DL B5 hb.size));exact zWa};go_wp2;go_ret;exact⟨Ad (by rw[m.out,HC.out,IJ BS];rfl),Bt⟩
 have m:Hid (Gk op (d::r)=Oe true r):=by show _=_;simp only[Gk,Stil.DN.kindIs,M,Q];simp
 have P:=BX u;have O:=BX t;clear u t;go_enter func121,ntmps121;go_wp2_with(first|(go_at_call 118;refine(KG _ _ _ _ _ _ J L).mo ?_;rintro e z⟨rfl,hb⟩;have⟨g,j⟩:=F8 hb;have f:w.heap.size<z.heap.size:=DL B5 hb.size;have c:=DL B5 hb.size));clear g j f c;go_loopw [4] (λi wr=>∃k:Nat,k<=r.length/\i=AB ((k:Int)+1)/\Oe true r=Oe true (r.drop k)/\Below (w.heap.size+1) (w.alloc (.cells #[AB op,AE (some (AK b o)) (r.length+1) cap] 53)) wr) (λi _=>r.length+1 - (intOf i).toNat);case atStart=>exact⟨0,BS,rfl,rfl,hb.mo BU⟩
 case round=>clear hb;obtain⟨k,R,rfl,G,hB⟩:=hrel;have HC:=BX G;clear G D H N;have hz:w.heap.size<wr.heap.size:=xAp;have D:wr.c (AL w 0)=some (AB op):=B0 hB;have S:wr.f (AL w 0)=false:=B1 hB;have H:wr.c (AL w 1)=some (AE (some (AK b o)) (r.length+1) cap):=B0 hB;have T:wr.f (AL w 1)=false:=B1 hB;have y:=(Aa _ _).tr (hB.mo BS);have c:=cr I y;by_cases K:k<r.length;{have⟨F,A,E⟩:=(P (k+1) Bw).below y I;(simp only[MX]at F A E;have⟨q,l⟩:=(O r[k] BU).2.1;have HR:Hid (Oe true (r.drop k)=(I8 r[k].kind r[k].n r[k].p && Oe true (r.drop (k+1)))):=by show(r.drop k).all _=_;rw[GH K,List.all_cons];rfl);have⟨x,B⟩:=AA (r[k]);rw[<-B]at F A E q l HR;clear B;cases C:I8 x.kind x.n x.p;{rw[C]at HR;go_wp2_with(first|(go_at_call 119;refine(Uk _ _ _ _ q l).mo ?_;rintro e s⟨rfl,hb⟩;have⟨g,j⟩:=F8 hb;have f:w.heap.size<s.heap.size:=DL B5 hb.size;have c:=DL B5 hb.size));go_ret;exact⟨Ad (by rw[m.out,HC.out,HR.out];rfl),Bt⟩};rw[C]at HR;go_wp2_with(first|(go_at_call 119;refine(Uk _ _ _ _ q l).mo ?_;rintro e s⟨rfl,hb⟩;have⟨g,j⟩:=F8 hb;have f:w.heap.size<s.heap.size:=DL B5 hb.size;have c:=DL B5 hb.size));exact zWa};go_wp2;go_ret;exact⟨Ad (by rw[m.out,HC.out,IJ BS];rfl),Bt⟩
def zNa{p:Prop}(h:p:=by go_enter func93,ntmps93;go_wp2;go_quiet (exact Calls.quiet_of_same (Jq _ _));go_wp2;go_ret;exact⟨rfl,below_drewN (Aa _ _) _⟩):p:=h
theorem uv(op:Int)(a:Option Ab)(len cap:Nat)(w:AU)(h:op<21\/37<op\/(len:Int)≠Stil.arity op)(_hl:len<=9223372036854775807):
  Calls prog 93 #[.agg #[AB op,AE a len cap]] w (AN w (.bool false)):=by
 by_cases b:op<21
 .have d:decide (op<21)=true:=by simpa using b
  exact zNa
 have d:decide (op<21)=false:=by simpa using b
 by_cases c:37<op
 .have f:decide (37<op)=true:=by simpa using c
  exact zNa
 have f:decide (37<op)=false:=by simpa using c
 have g:((len:Int) !=Stil.arity op)=true:=xBz;clear h;go_enter func93,ntmps93;go_wp2;go_quiet (exact Calls.quiet_of_same (Jq _ _));go_wp2;go_ret;exact⟨rfl,below_drewN (Aa _ _) _⟩
theorem sq(op:Int)(b o cap:Nat)(d:Stil.DN)(w:AU)(h1:21<=op)(i:op<=37)(c:Stil.arity op=1)(m:b<w.heap.size)(l:J3 w b o d)(r:-9223372036854775808<=d.n)(t:d.n<=9223372036854775807):
  Calls prog 93 #[.agg #[AB op,AE (some (AK b o)) 1 cap]] w (AN w (.bool (F7 op [d]))):=by
 obtain⟨z,E,x⟩:=l;have F:b<w.heap.size+1:=BS;have A:b<w.heap.size+1+1:=BS;have k:op=21\/op=22\/op=23\/op=25:=by unfold Stil.arity at c;split at c;{omega};split at c;{omega};split at c<;>omega
 have j:Hid (F7 op [d]=if op=21 then N8 d.kind d.n d.p 2 3 else if op=22 then N8 d.kind d.n d.p 2 3 || N8 d.kind d.n d.p 4 4 else if op=23 then N8 d.kind d.n d.p 2 3 || N8 d.kind d.n d.p 4 7 || N8 d.kind d.n d.p 8 8 else N8 d.kind d.n d.p 4 4):=by show _=_;unfold F7;rw[BQ (by simp[c];omega)];rfl
 have C:decide (op<21)=false:=Bw;have D:decide (37<op)=false:=Bw;clear h1 i;rcases k with rfl|rfl|rfl|rfl;all_goals
  go_enter func93,ntmps93;go_wp2;go_quiet (exact Calls.quiet_of_same (Jq _ _));go_wp2_with(first|(go_at_call 118;refine(KG _ _ _ _ _ _ CB CB).mono ?_;rintro e g⟨rfl,f⟩;have⟨y,B⟩:=F8 f;have u:w.heap.size<g.heap.size:=DL B5 f.size;have q:w.heap.size+1<g.heap.size:=DL B5 f.size;have s:=DL B5 f.size));all_goals go_ret
  all_goals(refine⟨Ad ?_,Bt⟩)
  all_goals rw[j.out]
  all_goals go_light
  all_goals simp[*]
def zea {p:Prop}(h:p:=by
 go_enter func93,ntmps93;go_wp2;go_quiet (exact Calls.quiet_of_same (Jq _ _));go_wp2_with(first|(go_at_call 118;refine(KG _ _ _ _ _ _ CB CB).mo ?_;rintro e w1⟨rfl,hb⟩;have⟨hc,hf⟩:=F8 hb;have hz0:w.heap.size<w1.heap.size:=DL B5 hb.size;have hz1:w.heap.size+1<w1.heap.size:=DL B5 hb.size;have hz2:=DL B5 hb.size));all_goals go_ret
 all_goals(refine⟨Ad ?_,Bt⟩)
 all_goals go_light
 all_goals simp[*]):p:=h
def zoa {p:Prop}(h:p:=by
 obtain⟨c0,c1,c2⟩:=hat;obtain⟨e0,e1,e2⟩:=dA;have hlt1:b<w.heap.size+1:=BS;have hlt2:b<w.heap.size+1+1:=BS;have h3:Stil.arity op=2:=by unfold Stil.arity;rw[BQ BS,BQ BS,BR BS]
 have h1':decide (op<21)=false:=by simp;omega
 have h2':decide (37<op)=false:=by simp;omega
 subst ho;all_goals exact zea):p:=h
def rG(op:Int)(b o cap:Nat)(d f:Stil.DN)(w:AU)(ho:op=24)(c:b<w.heap.size)(hat:J3 w b o d)(dA:J3 w b (o+3) f)(g:-9223372036854775808<=d.n)(k:d.n<=9223372036854775807)(i:-9223372036854775808<=f.n)(j:f.n<=9223372036854775807):
  Calls prog 93 #[.agg #[AB op,AE (some (AK b o)) 2 cap]] w (AN w (.bool (N8 d.kind d.n d.p 2 3 && N8 f.kind f.n f.p 5 5))):=by exact zoa
theorem Uz(op:Int)(b o cap:Nat)(d f:Stil.DN)(w:AU)(c:op=26\/op=27\/op=28)(j:b<w.heap.size)(g:J3 w b o d)(i:J3 w b (o+3) f)(k:-9223372036854775808<=d.n)(B:d.n<=9223372036854775807)(l:-9223372036854775808<=f.n)(r:f.n<=9223372036854775807):
  Calls prog 93 #[.agg #[AB op,AE (some (AK b o)) 2 cap]] w (AN w (.bool (N8 d.kind d.n d.p 7 7 && N8 f.kind f.n f.p 11 11 && decide (0<=f.n)))):=by obtain⟨t,C,q⟩:=g;obtain⟨u,m,z⟩:=i;have D:b<w.z+1:=BS;have x:b<w.z+1+1:=BS;have s:Stil.arity op=2:=xAg;have y:decide (op<21)=false:=Bw;have A:decide (37<op)=false:=Bw;rcases c with rfl|rfl|rfl;all_goals exact zea
def rI(op:Int)(b o cap:Nat)(d f:Stil.DN)(w:AU)(ho:op=29)(c:b<w.heap.size)(hat:J3 w b o d)(dA:J3 w b (o+3) f)(g:-9223372036854775808<=d.n)(k:d.n<=9223372036854775807)(i:-9223372036854775808<=f.n)(j:f.n<=9223372036854775807):
  Calls prog 93 #[.agg #[AB op,AE (some (AK b o)) 2 cap]] w (AN w (.bool (N8 d.kind d.n d.p 8 8 && N8 f.kind f.n f.p 11 11 && decide (0<=f.n)))):=by exact zoa
theorem sC(op:Int)(b o cap:Nat)(d f:Stil.DN)(w:AU)(l:op=36)(t:b<w.heap.size)(q:J3 w b o d)(s:J3 w b (o+3) f)(u:-9223372036854775808<=d.n)(A:d.n<=9223372036854775807)(B:-9223372036854775808<=f.n)(x:f.n<=9223372036854775807):
  Calls prog 93 #[.agg #[AB op,AE (some (AK b o)) 2 cap]] w (AN w (.bool (N8 d.kind d.n d.p 10 10 && I8 f.kind f.n f.p))):=by
 obtain⟨F,J,D⟩:=q;obtain⟨y,C,z⟩:=s;have K:b<w.heap.size+1:=BS;have G:b<w.heap.size+1+1:=BS;have E:Stil.arity op=2:=xAg;have H:decide (op<21)=false:=Bw;have I:decide (37<op)=false:=Bw;subst l;all_goals
  go_enter func93,ntmps93;go_wp2;go_quiet (exact Calls.quiet_of_same (Jq _ _));go_wp2_with(first|(go_at_call 118;refine(KG _ _ _ _ _ _ CB CB).mono ?_;rintro e g⟨rfl,c⟩;have⟨m,r⟩:=F8 c;have k:w.heap.size<g.heap.size:=DL B5 c.size;have i:w.heap.size+1<g.heap.size:=DL B5 c.size;have j:=DL B5 c.size)|(go_at_call 119;refine(Uk _ _ _ _ CB CB).mono ?_;rintro e g⟨rfl,c⟩;have⟨m,r⟩:=F8 c;have k:w.heap.size<g.heap.size:=DL B5 c.size;have i:w.heap.size+1<g.heap.size:=DL B5 c.size;have j:=DL B5 c.size));all_goals go_ret
  all_goals(refine⟨Ad ?_,Bt⟩)
  all_goals go_light
  all_goals simp[*]
theorem rF(op:Int)(b o cap:Nat)(d f:Stil.DN)(w:AU)(l:op=37)(t:b<w.heap.size)(q:J3 w b o d)(s:J3 w b (o+3) f)(u:-9223372036854775808<=d.n)(A:d.n<=9223372036854775807)(B:-9223372036854775808<=f.n)(x:f.n<=9223372036854775807):
  Calls prog 93 #[.agg #[AB op,AE (some (AK b o)) 2 cap]] w (AN w (.bool (N8 d.kind d.n d.p 9 9 && Jy f.kind f.n f.p))):=by
 obtain⟨F,J,D⟩:=q;obtain⟨y,C,z⟩:=s;have K:b<w.heap.size+1:=BS;have G:b<w.heap.size+1+1:=BS;have E:Stil.arity op=2:=xAg;have H:decide (op<21)=false:=Bw;have I:decide (37<op)=false:=Bw;subst l;all_goals
  go_enter func93,ntmps93;go_wp2;go_quiet (exact Calls.quiet_of_same (Jq _ _));go_wp2_with(first|(go_at_call 118;refine(KG _ _ _ _ _ _ CB CB).mono ?_;rintro e g⟨rfl,c⟩;have⟨m,r⟩:=F8 c;have k:w.heap.size<g.heap.size:=DL B5 c.size;have i:w.heap.size+1<g.heap.size:=DL B5 c.size;have j:=DL B5 c.size)|(go_at_call 120;refine(Wv _ _ _ _ CB CB).mono ?_;rintro e g⟨rfl,c⟩;have⟨m,r⟩:=F8 c;have k:w.heap.size<g.heap.size:=DL B5 c.size;have i:w.heap.size+1<g.heap.size:=DL B5 c.size;have j:=DL B5 c.size));all_goals go_ret
  all_goals(refine⟨Ad ?_,Bt⟩)
  all_goals go_light
  all_goals simp[*]
theorem VH(op:Int)(b o cap:Nat)(d:Stil.DN)(r:List Stil.DN)(w:AU)(m:30<=op/\op<=35)(f:Stil.arity op=(r.length:Int)+1)(j:b<w.heap.size)
  (c:∀i(h:i<(d::r).length),J3 w b (o+i*3) (d::r)[i]) (g:∀x∈d::r,x.fits):
  Calls prog 93 #[.agg #[AB op,AE (some (AK b o)) (r.length+1) cap]] w (AN w (.bool (Gk op (d::r)))):=by
 have⟨t,z,l⟩:=c 0 BU;simp only[GZ,IL,II]at t z l;have k:r.length<=100:=by
  have:Stil.arity op<=3:=by unfold Stil.arity;split<;>(try split)<;>(try split)<;>omega
  omega
 have u:=BX (λW(y:AO w W)i(h:i<(d::r).length)=>(c i h).below y j);have s:=BX g;have N:decide (op<21)=false:=Bw;have O:decide (37<op)=false:=Bw;have q:(op==21)=false/\(op==22)=false/\(op==23)=false/\(op==24)=false/\(op==25)=false/\(op==26)=false/\(op==27)=false/\(op==28)=false/\(op==29)=false/\(op==36)=false/\(op==37)=false:=by simp only[DV];omega
 obtain⟨K,G,H,E,J,F,M,B,A,D,P⟩:=q;have I:(((r.length:Int)+1) !=Stil.arity op)=false:=by rw[f];simp
 clear c g m f;go_enter func93,ntmps93;go_wp2;go_quiet (exact Calls.quiet_of_same (Jq _ _));go_wp2_with(first|(go_at_call 121;refine(ol op b o cap d r _ Bw k (u _ Bt) s.out).mo ?_;rintro e C⟨rfl,L⟩));go_ret;exact⟨rfl,Bt⟩
theorem wT{op:Int}(h1:21<=op)(c:op<=37):(Stil.arity op=1/\(op=21\/op=22\/op=23\/op=25))\/(Stil.arity op=2/\(op=24\/op=26\/op=27\/op=28\/op=29\/op=30\/op=36\/op=37))\/(Stil.arity op=3/\31<=op/\op<=35):=by
 unfold Stil.arity;by_cases a:op=1\/op=2\/op=21\/op=22\/op=23\/op=25
 .rw[BR a];left;exact⟨rfl,BS⟩
 rw[BQ a];by_cases b:31<=op/\op<=35
 .rw[BR b];right;right;exact⟨rfl,b⟩
 rw[BQ b,BR BS];right;left;exact⟨rfl,BS⟩
theorem Ar.cons{w:AU}{d:Stil.DN}{r:List Stil.DN}(h:Ar w v (d::r)):∃b o cap,v=AE (some (AK b o)) (r.length+1) cap/\b<w.heap.size/\∀i(hi:i<(d::r).length),J3 w b (o+i*3) (d::r)[i]:=by obtain⟨a,cap,k,f⟩:=h;obtain⟨b,o,rfl,g,_⟩:=f 0 BU;refine⟨b,o,cap,k,g,λi hi=>?_⟩;have⟨l,m,c,_,j⟩:=f i hi;simp only[E9,Addr.mk.injEq,Hh]at c;obtain⟨rfl,rfl⟩:=c;exact j
theorem dP(op:Int)(v:AW)(ds:List Stil.DN)(w:AU)(q:Ar w v ds)(m:∀d∈ds,d.fits)(hl:ds.length<=9223372036854775807):
  Calls prog 93 #[.agg #[AB op,v]] w (AN w (.bool (F7 op ds))):=by
 by_cases h:op<21\/37<op\/(ds.l:Int)≠Stil.arity op
 .have e:F7 op ds=false:=by unfold F7;rw[BR h]
  obtain⟨a,cap,rfl,_⟩:=q;rw[e];exact uv op a ds.l cap w h hl
 have z:21<=op:=by omega
 have y:op<=37:=BS;have c:(ds.l:Int)=Stil.arity op:=BS;rcases wT z y with⟨l,u⟩|⟨l,u⟩|⟨l,u⟩
 .match ds,q,m,h,c with
  |[],_,_,_,c=>rw[l]at c;simp at c
  |[d],q,m,h,c=>
   obtain⟨b,o,cap,rfl,k,hd⟩:=q.O;have i:=(m d BU).2.1;exact sq op b o cap d w z y l k hd i.1 i.2
  |d::f::r,_,_,_,c=>rw[l]at c;simp at c;omega
 .match ds,q,m,h,c with
  |[],_,_,_,c=>rw[l]at c;simp at c
  |[d],_,_,_,c=>rw[l]at c;simp at c
  |[d,f],q,m,h,c=>
   by_cases x:op=30
   .have⟨b,o,cap,t,k,hd⟩:=q.cons
    have e:F7 op [d,f]=Gk op [d,f]:=by
     unfold F7;rw[BQ h];simp[x]
    rw[e,t];exact VH op b o cap d [f] w BS (by rw[l];rfl) k hd m
   .obtain⟨b,o,cap,rfl,k,hd,s⟩:=q.two
    have i:=(m d BU).2.1;have j:=(m f BU).2.1;rcases u with rfl|rfl|rfl|rfl|rfl|rfl|rfl|rfl
    .have e:F7 24 [d,f]=(N8 d.kind d.n d.p 2 3 && N8 f.kind f.n f.p 5 5):=by unfold F7;rw[BQ h];rfl
     rw[e];exact rG 24 b o cap d f w rfl k hd s i.1 i.2 j.1 j.2
    .have e:F7 26 [d,f]=(N8 d.kind d.n d.p 7 7 && N8 f.kind f.n f.p 11 11 && decide (0<=f.n)):=by unfold F7;rw[BQ h];rfl
     rw[e];exact Uz 26 b o cap d f w BS k hd s i.1 i.2 j.1 j.2
    .have e:F7 27 [d,f]=(N8 d.kind d.n d.p 7 7 && N8 f.kind f.n f.p 11 11 && decide (0<=f.n)):=by unfold F7;rw[BQ h];rfl
     rw[e];exact Uz 27 b o cap d f w BS k hd s i.1 i.2 j.1 j.2
    .have e:F7 28 [d,f]=(N8 d.kind d.n d.p 7 7 && N8 f.kind f.n f.p 11 11 && decide (0<=f.n)):=by unfold F7;rw[BQ h];rfl
     rw[e];exact Uz 28 b o cap d f w BS k hd s i.1 i.2 j.1 j.2
    .have e:F7 29 [d,f]=(N8 d.kind d.n d.p 8 8 && N8 f.kind f.n f.p 11 11 && decide (0<=f.n)):=by unfold F7;rw[BQ h];rfl
     rw[e];exact rI 29 b o cap d f w rfl k hd s i.1 i.2 j.1 j.2
    .exact absurd rfl x
    .have e:F7 36 [d,f]=(N8 d.kind d.n d.p 10 10 && I8 f.kind f.n f.p):=by unfold F7;rw[BQ h];rfl
     rw[e];exact sC 36 b o cap d f w rfl k hd s i.1 i.2 j.1 j.2
    .have e:F7 37 [d,f]=(N8 d.kind d.n d.p 9 9 && Jy f.kind f.n f.p):=by unfold F7;rw[BQ h];rfl
     rw[e];exact rF 37 b o cap d f w rfl k hd s i.1 i.2 j.1 j.2
  |d::f::g::r,_,_,_,c=>rw[l]at c;simp at c;omega
 .match ds,q,m,h,c with
  |[],_,_,_,c=>rw[l]at c;simp at c
  |[d],_,_,_,c=>rw[l]at c;simp at c
  |[d,f],_,_,_,c=>rw[l]at c;simp at c
  |d::f::g::r,q,m,h,c=>
   have⟨b,o,cap,t,k,hd⟩:=q.cons;have e:F7 op (d::f::g::r)=Gk op (d::f::g::r):=by
    unfold F7;rw[BQ h]
   rw[e,t];exact VH op b o cap d (f::g::r) w BS (by rw[<-c];simp) k hd m
end
variable {e:AZ}{n size:Nat}{v:AW}{w':AU}{xs:List AW}
def Zf(k:Int):Bool:=decide (1<=k) && (decide (k<=4) || k==6 || k==7 || k==8)
def Qm(k:Int):Bool:=k==7 || k==8 || k==9 || k==11
def U0(k:Int):Bool:=k==10 || k==12 || k==13
def Ee(w:AU):Prop:=2<w.heap.size/\∀k:Nat,k<14->w.cell? (AK 2 (k*5))=some (.string (Q5 k))/\w.cell? (AK 2 (k*5+1))=some (AB (I7 k))/\w.cell? (AK 2 (k*5+2))=some (.bool (Zf k))/\w.cell? (AK 2 (k*5+3))=some (.bool (Qm k))/\w.cell? (AK 2 (k*5+4))=some (.bool (U0 k))
theorem Ee.below{w:AU}(h:Ee w)(i:AO w w'):Ee w':=by obtain⟨f,h⟩:=h;have⟨g,_⟩:=F8 i;refine⟨DL f i.size,λk j=>?_⟩;have⟨a,b,c,d,e⟩:=h k j;exact⟨xCm,xCm,xCm,xCm,xCm⟩
theorem Y1(k:Int)(w:AU)(hr:Ee w):
  Calls prog 217 #[AB k] w (AN w (.agg #[.string (Q5 k),AB (I7 k),.bool (Zf k),.bool (Qm k),.bool (U0 k)])):=by
 by_cases h:0<=k/\k<14
 .obtain⟨m,rfl⟩:=G4 h.1;have g:m<14:=BS;obtain⟨q,hr⟩:=hr;have⟨a,b,c,d,e⟩:=hr m g;clear h hr;go_enter func217,ntmps217;go_wp2;refine BH (v:=.agg #[.string (Q5 m),AB (I7 m),.bool (Zf m),.bool (Qm m),.bool (U0 m)]) (by simp[results,results217,go_sem]) rfl ⟨rfl,?_⟩
  (repeat(first|exact BP _ _|assumption|refine Bz ?_ _|refine Pq ?_ _|refine Tz ?_|refine I9 ?_ _ _|refine V3 (DK _) ?_ _|refine Bd ?_ CB))
 .have hd:Q5 k=⟨#[]⟩/\I7 k=0/\Zf k=false/\Qm k=false/\U0 k=false:=by
   unfold Q5 I7 Zf Qm U0;refine⟨by rw[BQ BS],by rw[BQ BS,BQ BS,BQ BS,BQ BS],?_,?_,?_⟩
   .simp only[Bool.and_eq_false_iff,Bool.or_eq_false_iff,HZ,DV];omega
   .simp only[Bool.or_eq_false_iff,DV];omega
   .simp only[Bool.or_eq_false_iff,DV];omega
  have i:=BX hd;clear hd hr;go_enter func217,ntmps217
  go_wp2
  all_goals(have⟨q1,j,f,l,o⟩:=i.out)
  all_goals refine BH (v:=.agg #[.string ⟨#[]⟩,AB 0,.bool false,.bool false,.bool false]) (by simp[results,results217,go_sem]) rfl ⟨by rw[q1,j,f,l,o],?_⟩
  all_goals(repeat(first|exact BP _ _|assumption|refine Bz ?_ _|refine Pq ?_ _|refine Tz ?_|refine I9 ?_ _ _|refine V3 (DK _) ?_ _|refine Bd ?_ CB))
def jJ(a:ByteArray)(b:Int)(c d e:Bool)(w:AU):(Instr.field 244 (.agg #[.string a,AB b,.bool c,.bool d,.bool e]) 1).run prog w=.ok (AB b) w:=BW
def jD(a:ByteArray)(b:Int)(c d e:Bool)(w:AU):(Instr.field 244 (.agg #[.string a,AB b,.bool c,.bool d,.bool e]) 2).run prog w=.ok (.bool c) w:=BW
def jA(a:ByteArray)(b:Int)(c d e:Bool)(w:AU):(Instr.field 244 (.agg #[.string a,AB b,.bool c,.bool d,.bool e]) 3).run prog w=.ok (.bool d) w:=BW
def i9(a:ByteArray)(b:Int)(c d e:Bool)(w:AU):(Instr.field 244 (.agg #[.string a,AB b,.bool c,.bool d,.bool e]) 4).run prog w=.ok (.bool e) w:=BW
theorem VN(k:Int)(w:AU)(hr:Ee w):
  Calls prog 221 #[AB k] w (AN w (AB (I7 k))):=by have d:=jJ;go_enter func221,ntmps221;go_wp2_with(go_at_call 217;refine(Y1 _ _ hr).mo ?_;rintro e c⟨rfl,b⟩);go_ret;exact⟨rfl,Bt⟩
theorem Au9(n p:Int)(w:AU)(c:-9223372036854775808<=n)(b:n<=9223372036854775807):
  Calls prog 220 #[AB n,AB p] w λe w'=>e=.returned (.bool (Ia 12 n p))/\w'=w:=by
 go_enter func220,ntmps220;go_wp2;all_goals go_ret
 all_goals(refine⟨Ad ?_,rfl⟩)
 all_goals go_light
 all_goals try simp only[E0,DV,bne_iff_ne,bne_eq_false_iff_eq] at*
 all_goals(rw[E6];simp[Ia, *];try omega)
def zha {p:Prop}(h:p:=by
 refine wp_region_quiet_below BW BW ?_;repeat(go_big_quiet_step ((exact Calls.regrown_of (VN _ _ (HR _ Bt)))))
 refine wpQuiet_nil ?_;intro _ hw';obtain⟨⟨dq,osq⟩,hw''⟩:=hw';subst hw'';go_wp2;go_ret;refine⟨Ad ?_,Bt⟩;go_light;simp only[DV] at*
 (rw[E6];simp[Ia, *];try omega)):p:=h
theorem ZJ(k n p:Int)(w:AU)(hr:Ee w)(g:-9223372036854775808<=n)(j:n<=9223372036854775807):
  Calls prog 216 #[.agg #[AB k,AB n,AB p]] w (AN w (.bool (Ia k n p))):=by
 have HR:=BX (λW(h:AO w W)=>hr.below h);clear hr;have d:(w.alloc (Obj.cells #[AB k,AB n,AB p] 111)).c (AL w 0)=some (AB k):=AP;have f:(w.alloc (Obj.cells #[AB k,AB n,AB p] 111)).c (AL w 1)=some (AB n):=AP;have c:(w.alloc (Obj.cells #[AB k,AB n,AB p] 111)).c (AL w 2)=some (AB p):=AP;have m:=cell_regrown d;have s:=cell_regrown f;have u:=cell_regrown c;clear d f c;go_enter func216,ntmps216;go_wp2_with(go_at_call 220;refine(Au9 _ _ _ g j).mo ?_;rintro e o⟨rfl,rfl⟩)
 rotate_right 1
 focus
  by_cases b:p=0
  .subst b
   by_cases i:0<=n
   .by_cases l:n<I7 k
    .refine wp_region_quiet_below BW BW ?_
     repeat(go_big_quiet_step ((exact Calls.regrown_of (VN _ _ (HR _ Bt)))))
     refine wpQuiet_nil ?_;intro _ hw';obtain⟨⟨dq,osq⟩,hw''⟩:=hw';subst hw''
     go_wp2
     go_ret;refine⟨Ad ?_,Bt⟩;go_light;simp only[DV] at*
     (rw[E6];simp[Ia, *];try omega)
    .have t:decide (n<I7 k)=false:=by simpa using l
     exact zha
   .have r:decide (0<=n)=false:=by simpa using i
    exact zha
  .have q:(p==0)=false:=by simpa using b
   exact zha
 all_goals go_ret
 all_goals(refine⟨Ad ?_,Bt⟩)
 all_goals go_light
 all_goals try simp only[E0,DV] at*
 all_goals first|(subst k;rfl)|(rw[E6];simp[Ia, *];try omega)
theorem QD{k n p:Int}(h:Ia k n p=true):1<=k/\k<=13:=by
 by_cases b:k=11
 .omega
 by_cases c:k=12
 .omega
 by_cases d:k=13
 .omega
 have:=fw h b c d;omega
theorem f8(k n p:Int):(Ia k n p && Zf k)=Q7 k n p:=by
 cases h:Ia k n p
 .simp[Q7,h]
 have b:=QD h;rw[Q7,h,E6];simp[Zf];try omega
def zga {p:Prop}(h:p:=by
 go_wp2_with(first|(go_at_call 216;refine(ZJ _ _ _ _ (HR _ Bt) hn1 hn2).mo ?_;rw[h];rintro e w1⟨rfl,hb⟩;have⟨hc,hf⟩:=F8 hb)|(go_at_call 217;refine(Y1 _ _ (HR _ Bt)).mo ?_;rintro e w2⟨rfl,hb2⟩));all_goals go_ret
 all_goals(refine⟨Ad ?_,Bt⟩)
 all_goals (rw[<-HE.out,h];rfl)):p:=h
theorem Au8(k n p:Int)(w:AU)(hr:Ee w)(hn1:-9223372036854775808<=n)(hn2:n<=9223372036854775807):
  Calls prog 207 #[.agg #[AB k,AB n,AB p]] w (AN w (.bool (Q7 k n p))):=by have b:=jD;have HR:=BX (λW(h:AO w W)=>hr.below h);have HE:=BX (f8 k n p);clear hr;cases h:Ia k n p;all_goals go_enter func207,ntmps207;exact zga
theorem xI(k n p:Int):(Ia k n p && Qm k)=I8 k n p:=by
 cases h:Ia k n p
 .simp[I8,h]
 have b:=QD h;rw[I8,h,E6];simp[Qm];try omega
theorem tI(k n p:Int)(w:AU)(hr:Ee w)(hn1:-9223372036854775808<=n)(hn2:n<=9223372036854775807):
  Calls prog 200 #[.agg #[AB k,AB n,AB p]] w (AN w (.bool (I8 k n p))):=by have b:=jA;have HR:=BX (λW(h:AO w W)=>hr.below h);have HE:=BX (xI k n p);clear hr;cases h:Ia k n p;all_goals go_enter func200,ntmps200;exact zga
theorem Avs(k n p:Int):(Ia k n p && U0 k)=Jy k n p:=by
 cases h:Ia k n p
 .simp[Jy,h]
 have b:=QD h;rw[Jy,h,E6];simp[U0];try omega
theorem wh(k n p:Int)(w:AU)(hr:Ee w)(hn1:-9223372036854775808<=n)(hn2:n<=9223372036854775807):
  Calls prog 201 #[.agg #[AB k,AB n,AB p]] w (AN w (.bool (Jy k n p))):=by have b:=i9;have HR:=BX (λW(h:AO w W)=>hr.below h);have HE:=BX (Avs k n p);clear hr;cases h:Ia k n p;all_goals go_enter func201,ntmps201;exact zga
def KT(w:AU)(b o:Nat)(l:List Int):Prop:=∀i(h:i<l.length),w.cell? (AK b (o+i))=some (AB l[i])
theorem Azh(b cap:Nat)(l:List Int)(v:Int)(w:AU)(m:KT w b 0 l)(hl:l.length<=1000):
  Calls prog 226 #[AE (some (AK b 0)) l.length cap,AB v] w λe w'=>(∃r,e=.returned (AB r)/\(0<=r↔v∈l))/\w'=w:=by
 have q:=BX m;clear m;go_enter func226,ntmps226;go_wp2;go_loop [8] (λi=>∃k:Nat,k<=l.length/\i=AB k/\v∉l.take k) (λi=>l.length - (intOf i).toNat);case atStart=>exact⟨0,BS,rfl,BU⟩
 case round=>
  obtain⟨k,t,rfl,g⟩:=hrel;have j:=BX g;clear g;by_cases f:k<l.length;{have o:=q k f;rw[ED]at o;by_cases c:v=l[k];{have s:(v==l[k])=true:=(by simpa using c);have d:Hid (v∈l):=(by show _∈_;rw[c];exact DW f);clear c;go_wp2;go_ret;exact⟨⟨k,rfl,λ_=>d.out,λ_=>by omega⟩,rfl⟩};have s:(v==l[k])=false:=(by simpa using c);have d:Hid (v∉l.take (k+1)):=(by show _∉_;rw[ER f,FU];rintro(h|h);{exact j h};exact c C5);clear c;go_wp2;exact⟨⟨k+1,BS,by go_num,d.out⟩,EX⟩}
  .have d:Hid (v∉l):=by
    show _∉_
    have:=j.out
    rwa [FB BS]at this
   go_wp2
   go_ret;exact⟨⟨-1,rfl,λh=>by omega,λh=>absurd h d.out⟩,rfl⟩
theorem tB(b cap:Nat)(l:List Int)(v:Int)(w:AU)(c:KT w b 0 l)(hl:l.length<=1000):
  Calls prog 222 #[AE (some (AK b 0)) l.length cap,AB v] w λe w'=>e=.returned (.bool (decide (v∈l)))/\w'=w:=by have d:=BX c;clear c;go_enter func222,ntmps222;go_wp2_with(go_at_call 226;refine(Azh b cap l v _ d hl).mo ?_;rintro e g⟨⟨r,rfl,f⟩,rfl⟩);go_ret;exact⟨Ad (by first|rfl|exact decide_eq_decide.2 f),rfl⟩
theorem U5(d:Stil.DN)(b cap:Nat)(l:List Int)(w:AU)(hr:Ee w)(c:KT w b 0 l)(k:b<w.heap.size)(hl:l.length<=1000)(f:-9223372036854775808<=d.n)(m:d.n<=9223372036854775807):
  Calls prog 218 #[.agg #[AB d.kind,AB d.n,AB d.p],AE (some (AK b 0)) l.length cap] w (AN w (.bool (d.ok && decide (d.kind∈l)))):=by
 have g:=BX (λW(h:AO w W)=>hr.below h);have j:Hid (∀W,AO w W->KT W b 0 l):=λW h i hi=>by rw[(F8 h).1 _ _ k];exact c i hi
 clear hr c;cases h:d.ok;all_goals
  go_enter func218,ntmps218;go_wp2_with(first|(go_at_call 216;refine(ZJ _ _ _ _ (g _ Bt) f m).mo ?_;rw[show Ia d.kind d.n d.p=_ from h];rintro e r⟨rfl,o⟩;have⟨s,t⟩:=F8 o)|(go_at_call 222;refine(tB b cap l _ _ (j _ Bt) hl).mo ?_;rintro e q⟨rfl,rfl⟩));all_goals go_ret
  all_goals exact⟨rfl,Bt⟩
def Fj(w:AU)(b:Nat):Nat->List Int->Prop
 |_,[]=>True
 |o,x::r=>w.cell? (AK b o)=some (AB x)/\Fj w b (o+1) r
theorem Df{w:AU}{b:Nat}:∀{l:List Int}{o:Nat},Fj w b o l->KT w b o l
 |[],_,_=>λi hi=>absurd hi BU
 |x::r,o,h=>λi hi=>by
  cases i with
  |zero=>exact h.1
  |succ k=>
   have:=Df h.2 k yEf
   rw[show o+(k+1)=o+1+k from BS];simpa using this
theorem pK(d:Stil.DN)(w:AU)(hr:Ee w)(b:-9223372036854775808<=d.n)(c:d.n<=9223372036854775807):
  Calls prog 208 #[.agg #[AB d.kind,AB d.n,AB d.p]] w (AN w (.bool (d.ok && decide (d.kind∈([5]:List Int))))):=by have f:=BX (λW(h:AO w W)=>hr.below h);clear hr;go_enter func208,ntmps208;go_wp2_with(go_at_call 218;refine(U5 d _ _ [5] _ (f _ Bt) (Df xAc) BU BU b c).mo ?_;rintro e i⟨rfl,g⟩);go_ret;exact⟨Ad BU,Bt⟩
theorem pE(d:Stil.DN)(w:AU)(hr:Ee w)(b:-9223372036854775808<=d.n)(c:d.n<=9223372036854775807):
  Calls prog 214 #[.agg #[AB d.kind,AB d.n,AB d.p]] w (AN w (.bool (d.ok && decide (d.kind∈([4]:List Int))))):=by have f:=BX (λW(h:AO w W)=>hr.below h);clear hr;go_enter func214,ntmps214;go_wp2_with(go_at_call 218;refine(U5 d _ _ [4] _ (f _ Bt) (Df xAc) BU BU b c).mo ?_;rintro e i⟨rfl,g⟩);go_ret;exact⟨Ad BU,Bt⟩
theorem pD(d:Stil.DN)(w:AU)(hr:Ee w)(b:-9223372036854775808<=d.n)(c:d.n<=9223372036854775807):
  Calls prog 202 #[.agg #[AB d.kind,AB d.n,AB d.p]] w (AN w (.bool (d.ok && decide (d.kind∈([7]:List Int))))):=by have f:=BX (λW(h:AO w W)=>hr.below h);clear hr;go_enter func202,ntmps202;go_wp2_with(go_at_call 218;refine(U5 d _ _ [7] _ (f _ Bt) (Df xAc) BU BU b c).mo ?_;rintro e i⟨rfl,g⟩);go_ret;exact⟨Ad BU,Bt⟩
theorem pN(d:Stil.DN)(w:AU)(hr:Ee w)(b:-9223372036854775808<=d.n)(c:d.n<=9223372036854775807):
  Calls prog 215 #[.agg #[AB d.kind,AB d.n,AB d.p]] w (AN w (.bool (d.ok && decide (d.kind∈([8]:List Int))))):=by have f:=BX (λW(h:AO w W)=>hr.below h);clear hr;go_enter func215,ntmps215;go_wp2_with(go_at_call 218;refine(U5 d _ _ [8] _ (f _ Bt) (Df xAc) BU BU b c).mo ?_;rintro e i⟨rfl,g⟩);go_ret;exact⟨Ad BU,Bt⟩
theorem pL(d:Stil.DN)(w:AU)(hr:Ee w)(b:-9223372036854775808<=d.n)(c:d.n<=9223372036854775807):
  Calls prog 204 #[.agg #[AB d.kind,AB d.n,AB d.p]] w (AN w (.bool (d.ok && decide (d.kind∈([9]:List Int))))):=by have f:=BX (λW(h:AO w W)=>hr.below h);clear hr;go_enter func204,ntmps204;go_wp2_with(go_at_call 218;refine(U5 d _ _ [9] _ (f _ Bt) (Df xAc) BU BU b c).mo ?_;rintro e i⟨rfl,g⟩);go_ret;exact⟨Ad BU,Bt⟩
theorem pH(d:Stil.DN)(w:AU)(hr:Ee w)(b:-9223372036854775808<=d.n)(c:d.n<=9223372036854775807):
  Calls prog 205 #[.agg #[AB d.kind,AB d.n,AB d.p]] w (AN w (.bool (d.ok && decide (d.kind∈([10]:List Int))))):=by have f:=BX (λW(h:AO w W)=>hr.below h);clear hr;go_enter func205,ntmps205;go_wp2_with(go_at_call 218;refine(U5 d _ _ [10] _ (f _ Bt) (Df xAc) BU BU b c).mo ?_;rintro e i⟨rfl,g⟩);go_ret;exact⟨Ad BU,Bt⟩
theorem oz(d:Stil.DN)(w:AU)(hr:Ee w)(b:-9223372036854775808<=d.n)(c:d.n<=9223372036854775807):
  Calls prog 211 #[.agg #[AB d.kind,AB d.n,AB d.p]] w (AN w (.bool (d.ok && decide (d.kind∈([2,3]:List Int))))):=by have f:=BX (λW(h:AO w W)=>hr.below h);clear hr;go_enter func211,ntmps211;go_wp2_with(go_at_call 218;refine(U5 d _ _ [2,3] _ (f _ Bt) (Df xAc) BU BU b c).mo ?_;rintro e i⟨rfl,g⟩);go_ret;exact⟨Ad BU,Bt⟩
theorem nM(d:Stil.DN)(w:AU)(hr:Ee w)(b:-9223372036854775808<=d.n)(c:d.n<=9223372036854775807):
  Calls prog 212 #[.agg #[AB d.kind,AB d.n,AB d.p]] w (AN w (.bool (d.ok && decide (d.kind∈([2,3,4]:List Int))))):=by have f:=BX (λW(h:AO w W)=>hr.below h);clear hr;go_enter func212,ntmps212;go_wp2_with(go_at_call 218;refine(U5 d _ _ [2,3,4] _ (f _ Bt) (Df xAc) BU BU b c).mo ?_;rintro e i⟨rfl,g⟩);go_ret;exact⟨Ad BU,Bt⟩
theorem Azu(d:Stil.DN)(w:AU)(hr:Ee w)(b:-9223372036854775808<=d.n)(c:d.n<=9223372036854775807):
  Calls prog 213 #[.agg #[AB d.kind,AB d.n,AB d.p]] w (AN w (.bool (d.ok && decide (d.kind∈([2,3,4,7,8]:List Int))))):=by have f:=BX (λW(h:AO w W)=>hr.below h);clear hr;go_enter func213,ntmps213;go_wp2_with(go_at_call 218;refine(U5 d _ _ [2,3,4,7,8] _ (f _ Bt) (Df xAc) BU BU b c).mo ?_;rintro e i⟨rfl,g⟩);go_ret;exact⟨Ad BU,Bt⟩
theorem Au4(d:Stil.DN)(w:AU)(hr:Ee w)(c:-9223372036854775808<=d.n)(f:d.n<=9223372036854775807):
  Calls prog 203 #[.agg #[AB d.kind,AB d.n,AB d.p]] w (AN w (.bool (d.ok && decide (d.kind∈([11]:List Int)) && decide (0<=d.n)))):=by
 have g:=BX (λW(h:AO w W)=>hr.below h);clear hr;cases h:(d.ok && decide (d.kind∈([11]:List Int)));all_goals
  go_enter func203,ntmps203;go_wp2_with(go_at_call 218;refine(U5 d _ _ [11] _ (g _ Bt) (Df xAc) BU BU c f).mo ?_;rw[h];rintro e j⟨rfl,b⟩;have⟨k,i⟩:=F8 b);all_goals go_ret
  all_goals exact⟨Ad BU,Bt⟩
def kY:(prog.info? 111).map (λi=>(i.zero,i.size,i.bytes))=some (some (.agg #[AB 0,AB 0,AB 0]),3,24):=BW
def Uu(d:Stil.DN):List AW:=[AB d.kind,AB d.n,AB d.p]
def Dh(ds:List Stil.DN):List AW:=ds.flatMap Uu
def Rq(ds:List Stil.DN):(Dh ds).length=ds.length*3:=by induction ds with|nil=>rfl|cons d r b=>simp[Dh,Uu]at b⊢;omega
def rj(ds:List Stil.DN)(d:Stil.DN):Dh (ds++[d])=Dh ds++Uu d:=by simp[Dh]
theorem Rz(ds:List Stil.DN):∀(i:Nat)(h:i<ds.length),(Dh ds)[i*3]?=some (AB ds[i].kind)/\(Dh ds)[i*3+1]?=some (AB ds[i].n)/\(Dh ds)[i*3+2]?=some (AB ds[i].p):=by
 induction ds with
 |nil=>intro i h;simp at h
 |cons d r f=>
  intro i h;have e:Dh (d::r)=AB d.kind::AB d.n::AB d.p::Dh r:=rfl;cases i with
  |zero=>rw[e];simp|succ i=>have c:i<r.l:=C5;rw[e];have:=f i c;have b:(i+1)*3=i*3+3:=BS;rw[b];simpa using this
def add_plain(g j:Nat):((AK g 0):Ab).add j=(AK g j):=by unfold Addr.add;split<;>simp_all
theorem J9{w:AU}{base:Nat}(h:w.ownsRow base e size v n xs)(f:0<n):∃g cap,v=AE (some (AK g 0)) n cap/\base<=g/\g<w.heap.size/\n<=cap/\∀j u,xs[j]?=some u->w.cell? (AK g j)=some u:=by
 have b:=h.2;rcases b with⟨_,i⟩|⟨g,cap,cur,hv,c,_,d,_⟩
 .omega
 refine⟨g,cap,hv,c,(h.lt g yFc).2,d,λj u hu=>?_⟩;have:=h.cells (g:=g) yFc j u hu;rwa [add_plain]at this
theorem Ar.of_owns{w:AU}{base:Nat}{ds:List Stil.DN}(h:w.ownsRow base 111 3 v ds.length (Dh ds)):Ar w v ds:=by
 by_cases hd:ds.l=0
 .have k:=BL.1 hd;subst k;rcases h.2 with⟨f,_⟩|⟨g,cap,cur,b,_⟩;{exact⟨none,0,f,λi hi=>by simp at hi⟩};exact⟨_,cap,b,λi hi=>by simp at hi⟩
 have⟨g,cap,b,_,d,_,c⟩:=J9 h BS;refine⟨_,cap,b,λi hi=>⟨g,0,rfl,d,?_⟩⟩;have⟨l,j,m⟩:=Rz ds i hi;unfold J3;rw[ED];exact⟨c _ _ l,c _ _ j,c _ _ m⟩
theorem ownsRow_below{w:AU}{base:Nat}(h:w.ownsRow base e size v n xs)(b:AO w w'):w'.ownsRow base e size v n xs:=by
 refine⟨h.1,?_⟩;rcases h.2 with d|⟨g,cap,cur,hv,f,c,i⟩
 .exact Or.inl d
 have:=(h.lt g yFc).2;exact Or.inr ⟨g,cap,cur,hv,f,by rwa[b.block g this],i⟩
theorem Vy(W:AU)(cs:List AW)(t:AZ)(b:Nat)(c:b=W.heap.size):∀j u,cs[j]?=some u->(W.alloc (.cells cs.toArray t)).cell? (((AK b 0):Ab).add j)=some u:=by subst c;intro j u d;rw[add_plain,World.cell?_alloc_at _ _ _ _ rfl];simpa using d
theorem qI{P:AY}{ops:Array Oper}{o:Oper}{a:Act}{w:AU}{K:Act->World->Prop}{Q:Exit->Act->World->Prop}{E:Prop}
  (hg:o.guard=none) (s x:Operand) (t:AZ) (A:o.op=.call {callee:=.builtin .append,args:=#[s,x],argTypes:=#[t,t]})
  (base:Nat) (e:AZ) (i:TypeInfo) (z:AW) (size bytes:Nat) (F:P.underlying t=some (.slice e)) (hi:P.info? e=some i) (G:i.zero=some z)
  (C:i.size=size) (k:i.bytes=bytes) (I:z.cells.size=size) (p:0<size)
  (v:AW) (n:Nat) (xs:List AW) (h:a.eval s=v) (g:w.ownsRow base e size v n xs)
  (d:Ab) (m c:Nat) (news:List AW) (hx:a.eval x=AE (some d) m c) (hl:news.length=m*size) (f:∀j u,news[j]?=some u->w.cell? (d.add j)=some u) (h1:∀u∈news,u.oneCell'=true)
  (y:n+m<=maxLen) (r:(n+m)*bytes<=140737488355328) (B:base<=w.heap.size)
  (l:∀b w',w'.ownsRow base e size b (n+m) (xs++news)->w.grownBy w' v.ownBlock->K (a.put o.dst b) w'):
  if Region.wanted o (yielded ops a.tmps)=true then Oper.wp P o a w K Q else E:=by have H:Region.wanted o (yielded ops a.tmps)=true:=xBs;rw[BR H];exact wp_append_own w s x t A base e i z size bytes F hi G C k I p v n xs h g d m c news hx hl f h1 y r B λb w' q D _=>l b w' q D
theorem si(ds:List Stil.DN):∀u∈Dh ds,u.oneCell'=true:=by intro u hu;simp only[Dh,List.mem_flatMap,Uu]at hu;obtain⟨d,_,hd⟩:=hu;simp at hd;rcases hd with rfl|rfl|rfl<;>rfl
theorem mQ(d e:Stil.DN):(d=e)↔(d.kind=e.kind/\d.n=e.n/\d.p=e.p):=by cases d;cases e;simp
