import Derived.Test.YtgnkpbhknkinoaaGreatDoorTD1
import Derived.Test.YtgnkpbhknkinoaaGreatDoorGb
import Derived.Test.YtgnkpbhknkinoaaGreatDoorGe
set_option linter.defProp false
set_option maxHeartbeats 4000000
set_option maxRecDepth 100000
namespace Go.Proofs.YtgnkpbhknkinoaaGreatDoor
open Tryz Go.RowKit Go.Sort Go.BigFrame
section
open Stil
def NF(w:AU)(p g:Nat)(v:AW)(bits forks:Int)(ba fr:Bool):Prop:=p<w.heap.size/\(w.cell? (AK p 0)=some (AH g)/\w.cell? (AK p 1)=some v/\w.cell? (AK p 2)=some (AB bits)/\w.cell? (AK p 3)=some (AB forks)/\w.cell? (AK p 4)=some (.bool ba)/\w.cell? (AK p 5)=some (.bool fr))/\w.frozen? (AK p 0)=false/\w.frozen? (AK p 1)=false/\w.frozen? (AK p 2)=false/\w.frozen? (AK p 3)=false/\w.frozen? (AK p 4)=false/\w.frozen? (AK p 5)=false
def PB6(w:AU)(p g:Nat)(v:AW)(bits forks:Int)(ba fr:Bool):Prop:=B6 w p (AH g) v (AB bits) (AB forks) (.bool ba) (.bool fr)
def PB6.box{w:AU}{p g:Nat}{v:AW}{bits forks:Int}{ba fr:Bool}(h:PB6 w p g v bits forks ba fr):NF w p g v bits forks ba fr:=⟨h.1,h.2.1,h.2.2 0 BS,h.2.2 1 BS,h.2.2 2 BS,h.2.2 3 BS,h.2.2 4 BS,h.2.2 5 BS⟩
def En(w:AU)(p g P k n:Nat)(bits forks:Int)(ba fr:Bool):Prop:=g<p/\∃v,PB6 w p g v bits forks ba fr/\GR 3 g P n k (p+1) (p::upTo g) w v []
section
variable {w w':AU}{p g P P' k k' n n':Nat}{bt fk:Int}{ba fr:Bool}
def En.rd(h:En w p g P k n bt fk ba fr):Ku w g P:=let ⟨_,_,_,h⟩:=h;h.rd
def En.later(h:En w p g P k n bt fk ba fr)(h1:P<=P')(e:k'<=k)(f:n<=n'):En w p g P' k' n' bt fk ba fr:=let ⟨a,v,b,c⟩:=h;⟨a,v,b,c.later h1 f e⟩
def En.grown(h:En w p g P k n bt fk ba fr)(hg:w.grownBy w' (some g))(hr:Ku w' g P'):En w' p g P' k n bt fk ba fr:=let ⟨a,v,b,c⟩:=h;⟨a,v,B6.grown b hg (λe=>by injection e with e;omega),c.grown BS (Ax PY) hg hr⟩
def En.bits(h:En w p g P k n bt fk ba fr)(u:Int):En (w.setCell (AK p 2) (AB u)) p g P k n u fk ba fr:=let ⟨a,v,b,c⟩:=h;⟨a,v,B6.set2 b _,c.set Av BS a⟩
def En.forks(h:En w p g P k n bt fk ba fr)(u:Int):En (w.setCell (AK p 3) (AB u)) p g P k n bt u ba fr:=let ⟨a,v,b,c⟩:=h;⟨a,v,B6.set3 b _,c.set Av BS a⟩
def En.base(h:En w p g P k n bt fk ba fr)(u:Bool):En (w.setCell (AK p 4) (.bool u)) p g P k n bt fk u fr:=let ⟨a,v,b,c⟩:=h;⟨a,v,B6.set4 b _,c.set Av BS a⟩
def En.box(h:En w p g P k n bt fk ba fr):∃a c,∃m:Nat,NF w p g (AE a m c) bt fk ba fr:=by obtain⟨a,v,b,c⟩:=h;obtain⟨e,f,m,rfl⟩:=c.form;exact⟨e,f,m,PB6.box b⟩
end
section
variable {P g k n p:Nat}{ba fr:Bool}{r:Option Nat}
def Ua{w a b:AU}(h:Below g w a)(k:a.grownBy b r)(hr:∀j,r=some j->g<=j)(l:g<=w.heap.size):Below g w b:=by have f:Below g a b:=⟨k.os,k.tape,k.output,k.size,λi hi=>k.block i (by have:=h.size;omega) (λe=>by have:=hr i e.symm;omega)⟩;exact h.tr f
def RN{w w':AU}(h:w.drew.grownBy w' r):w.grownBy w' r:=⟨h.os,h.tape,h.output,h.size,h.block⟩
theorem En.put{w o l:AU}{bits forks:Int}{v m:AW}{y:Ao}(f:g<p)(z:PB6 o p g v bits forks ba fr)(t:∀c,v.ownBlock=some c->p+1<=c)(h:GR 3 g P (n+1) (k+1) (p+1) (p::upTo g) l m y/\o.grownBy l v.ownBlock)(C:Below g w o)(hg:g<=w.heap.size)(F:Bool):
  En ((l.setCell (AK p 1) m).setCell (AK p 5) (.bool F)) p g P (k+1) (n+1) bits forks ba F/\Below g w ((l.setCell (AK p 1) m).setCell (AK p 5) (.bool F)):=
 ⟨⟨f,m,B6.set5 (B6.set1 (B6.grown z h.2 (λe=>by have:=t _ e;omega)) _) _,((h.1.sub (λx B=>by cases B)).set Av BS f).set Av BS f⟩,((Ua C h.2 (λj A=>by have:=t j A;omega) hg).s (EL f) _).s (EL f) _⟩
theorem P7(code:Int)(hc:1<=code/\code<=11)(p g P k n:Nat)(bits forks:Int)(ba fr:Bool)(w:World)(h:En w p g P k n bits forks ba fr)(hP:P<=10000000)(hn:n<=90000):
  Calls prog 70 #[.pointer (some ⟨p,0,none⟩),.int .i64 code] w λe w'=>(∃v,e=.returned v)/\En w' p g (P+50) (k+1) (n+1) bits forks (ba || code==10 || code==7) (code==10)/\Below g w w':=by
 obtain⟨Y,v,ag,aa⟩:=h;have ax:=aa.rd;have ae:=Jb ax;have au:=λc hc=>(aa.lo c hc).1;have ao:=λc hc=>(aa.lo c hc).2;have zG:=Af (λW(h:w.grownBy W (some g))=>(show PB6 W p g v bits forks ba fr from B6.grown ag h (by simp only[ne_eq,E9];omega)));have vW:=Af (λW P'(h:w.grownBy W (some g))(hr:Ku W g P')=>aa.grown BS (.tail _ PY) h hr);obtain⟨a,c,m,rfl⟩:=aa.form;have V:=Af au;have jd:=Af ao;obtain⟨aB,⟨K,N,G,D,E,H⟩,J,F,M,O,B,I⟩:=ag.box;clear aa ag au ao;by_cases h3:code<=3
 .have yw:(code==10)=false:=by rw[DV];omega
  have ay:(code==7)=false:=by rw[DV];omega
  go_enter func70,ntmps70;go_upto_region 5 with(go_at_call 33;refine(Hr g _ _ B7 BS).mono ?_;rintro e l⟨op,av,f,rfl,R,ac,aj,ai,aN,o⟩;have aA:w.heap.size<l.heap.size:=(by have:=o.size;simp at this;omega);have bI:=Eu (Pm (Lc _ _) _) o;obtain⟨ak,⟨K,N,G,D,E,H⟩,J,F,M,O,B,I⟩:=(zG l bI).box;have ah:l.cell? ⟨w.heap.size,0,none⟩=some (.int .i64 code)/\l.cell? ⟨w.heap.size,1,none⟩=some (.int .i64 0)/\l.cell? ⟨w.heap.size,2,none⟩=some (.slice none 0 0)/\l.frozen? ⟨w.heap.size,1,none⟩=false/\l.frozen? ⟨w.heap.size,2,none⟩=false:=(by refine⟨(Ez o BU BS).trans (by simp[go_sem]),(Ez o BU BS).trans (by simp[go_sem]),(Ez o BU BS).trans (by simp[go_sem]),(Ff o BU BS).trans (by simp[go_sem]),(Ff o BU BS).trans (by simp[go_sem])⟩);obtain⟨z0,z1,z2,jo,jm⟩:=ah;have ad:=Le ac;obtain⟨t,x,rfl,-⟩:=ac);obtain⟨wq,j⟩:∃wq,wq=(l.setCell ⟨w.heap.size,1,none⟩ (.int .i64 op)).setCell ⟨w.heap.size,2,none⟩ (.slice t f.length x):=⟨_,rfl⟩;have y:w.grownBy wq (some g):=by rw[j];exact Br
  have ab:Jg (λb=>w.heap.size<b) wq (.slice t f.length x) f:=by rw[j];exact(ad.mono (λb _ hb=>by simp at hb;omega)).keep ((Gt.set BS _).trans (Gt.set BS _))
  have U:Ku wq g (P+50):=by rw[j];exact Il (KP (KP aN BS _) BS _) BS
  have X:=Af ((vW wq _ y U).dev (i:=⟨code,⟨op,f⟩⟩) ab (λb hb A=>by
   rcases List.mem_append.1 A with A|A
   .have:=jd b (KV.1 A);omega
   .rcases List.mem_cons.1 A with h | h;omega;have:=Jp.1 h;omega))
  have zC:Hid (Rf ⟨code,⟨op,f⟩⟩/\f.length<=3):=⟨⟨by simp only;omega,R,aj,by simp only;omega⟩,ai⟩;obtain⟨y0,y1,y2⟩:wq.cell? ⟨w.heap.size,0,none⟩=some (.int .i64 code)/\wq.cell? ⟨w.heap.size,1,none⟩=some (.int .i64 op)/\wq.cell? ⟨w.heap.size,2,none⟩=some (.slice t f.length x):=by rw[j];exact⟨(Dl BS).trans ((Dl BS).trans z0),(Dl BS).trans (Ei z1),Ei ((Dl BS).trans z2)⟩
  have ap:w.heap.size<wq.heap.size:=by rw[j];simp;omega
  rw[<-j];clear j aN o bI z0 z1 z2 jo jm ab U ad ak;have z:=Af (zG wq y);have Z:Hid (Below g w wq):=Ua (Below.refl _ _) y (λar hj=>by simp only[E9]at hj;omega) BS;clear K N G D E H J F M O B I y;obtain⟨an,⟨K,N,G,D,E,H⟩,J,F,M,O,B,I⟩:=z.box;go_region_law(first|(go_loud (refine Gf rfl rfl (GR.put (m:=1) _ (es:=[⟨code,⟨op,f⟩⟩]) (cs:=[.int .i64 code,.int .i64 op,.slice t f.length x]) X.drew BS yFg (.head _) yBj BS rfl) rfl rfl ?_;rintro v6 w6⟨C,T⟩;obtain⟨a6,c6,m6,rfl⟩:=C.form;have Q:=Af (And.intro C (RN T));clear C T;obtain⟨-,⟨K,N,G,D,E,H⟩,J,F,M,O,B,I⟩:=PB6.box (B6.grown z Q.2 (λe=>(by have:=V _ e;omega))))));all_goals go_wp2;go_end0;exact⟨⟨_,rfl⟩,En.put Y z V Q Z (EL ae) false⟩
 by_cases az:code=10
 .subst az;go_enter func70,ntmps70;go_upto_region 5 with(go_at_call 34;refine(Ql g _ _ B7 BS).mono ?_;rintro e l⟨op,av,f,rfl,R,ac,aj,ai,aN,o⟩;have aA:w.heap.size<l.heap.size:=(by have:=o.size;simp at this;omega);have bI:=Eu (Pm (Lc _ _) _) o;obtain⟨ak,⟨K,N,G,D,E,H⟩,J,F,M,O,B,I⟩:=(zG l bI).box;have ah:l.cell? ⟨w.heap.size,0,none⟩=some (.int .i64 10)/\l.cell? ⟨w.heap.size,1,none⟩=some (.int .i64 0)/\l.cell? ⟨w.heap.size,2,none⟩=some (.slice none 0 0)/\l.frozen? ⟨w.heap.size,1,none⟩=false/\l.frozen? ⟨w.heap.size,2,none⟩=false:=(by refine⟨(Ez o BU BS).trans (by simp[go_sem]),(Ez o BU BS).trans (by simp[go_sem]),(Ez o BU BS).trans (by simp[go_sem]),(Ff o BU BS).trans (by simp[go_sem]),(Ff o BU BS).trans (by simp[go_sem])⟩);obtain⟨z0,z1,z2,jo,jm⟩:=ah;have ad:=Le ac;obtain⟨t,x,rfl,-⟩:=ac);obtain⟨wq,j⟩:∃wq,wq=(l.setCell ⟨w.heap.size,1,none⟩ (.int .i64 op)).setCell ⟨w.heap.size,2,none⟩ (.slice t f.length x):=⟨_,rfl⟩;have y:w.grownBy wq (some g):=by rw[j];exact Br
  have ab:Jg (λb=>w.heap.size<b) wq (.slice t f.length x) f:=by rw[j];exact(ad.mono (λb _ hb=>by simp at hb;omega)).keep ((Gt.set BS _).trans (Gt.set BS _))
  have U:Ku wq g (P+50):=by rw[j];exact Il (KP (KP aN BS _) BS _) BS
  have X:=Af ((vW wq _ y U).dev (i:=⟨10,⟨op,f⟩⟩) ab (λb hb A=>by
   rcases List.mem_append.1 A with A|A
   .have:=jd b (KV.1 A);omega
   .rcases List.mem_cons.1 A with h | h;omega;have:=Jp.1 h;omega))
  have zC:Hid (Rf ⟨10,⟨op,f⟩⟩/\f.length<=3):=⟨⟨by simp only;omega,R,aj,by simp only;omega⟩,ai⟩;obtain⟨y0,y1,y2⟩:wq.cell? ⟨w.heap.size,0,none⟩=some (.int .i64 10)/\wq.cell? ⟨w.heap.size,1,none⟩=some (.int .i64 op)/\wq.cell? ⟨w.heap.size,2,none⟩=some (.slice t f.length x):=by rw[j];exact⟨(Dl BS).trans ((Dl BS).trans z0),(Dl BS).trans (Ei z1),Ei ((Dl BS).trans z2)⟩
  have ap:w.heap.size<wq.heap.size:=by rw[j];simp;omega
  rw[<-j];clear j aN o bI z0 z1 z2 jo jm ab U ad ak;have z:=Af (zG wq y);have Z:Hid (Below g w wq):=Ua (Below.refl _ _) y (λar hj=>by simp only[E9]at hj;omega) BS;clear K N G D E H J F M O B I y;obtain⟨an,⟨K,N,G,D,E,H⟩,J,F,M,O,B,I⟩:=z.box;go_region_law(first|(go_loud (refine Gf rfl rfl (GR.put (m:=1) _ (es:=[⟨10,⟨op,f⟩⟩]) (cs:=[.int .i64 10,.int .i64 op,.slice t f.length x]) X.drew BS yFg (.head _) yBj BS rfl) rfl rfl ?_;rintro v6 w6⟨C,T⟩;obtain⟨a6,c6,m6,rfl⟩:=C.form;have Q:=Af (And.intro C (RN T));clear C T;obtain⟨-,⟨K,N,G,D,E,H⟩,J,F,M,O,B,I⟩:=PB6.box (B6.grown z Q.2 (λe=>(by have:=V _ e;omega))))));all_goals go_wp2;go_end0;have S:=En.put Y z V Q Z (EL ae) true;exact⟨⟨_,rfl⟩,by simpa using S.1.base true,S.2.setCell (EL Y) _⟩
 have aD:¬code<4:=by omega
 have yw:(code==10)=false:=by rw[DV];omega
 go_enter func70,ntmps70;go_upto_region 5 with fail;obtain⟨wq,j⟩:∃wq,wq=w.alloc (.cells #[.int .i64 code,.int .i64 0,.slice none 0 0] 77):=⟨_,rfl⟩;have y:w.grownBy wq (some g):=by rw[j];exact Br
 have U:Ku wq g (P+50):=by rw[j];exact Il (Gg ax _) BS
 obtain⟨op,R⟩:∃op:Int,op=0:=⟨_,rfl⟩;obtain⟨f,af⟩:∃f:List Stil.DN,f=[]:=⟨_,rfl⟩;obtain⟨t,al⟩:∃t:Option Addr,t=none:=⟨_,rfl⟩;obtain⟨x,aw⟩:∃x:Nat,x=0:=⟨_,rfl⟩;have X:=Af ((vW wq _ y U).code code);have zC:Hid (Rf ⟨code,⟨op,f⟩⟩/\f.length<=3):=by rw[R,af];exact Qu BS
 have S:F6 code=⟨code,⟨op,f⟩⟩:=by rw[R,af];rfl
 have hF:(Value.slice none 0 0)=.slice t f.length x:=by rw[af,al,aw];rfl
 rw[S,hF,<-R]at X;obtain⟨y0,y1,y2⟩:wq.cell? ⟨w.heap.size,0,none⟩=some (.int .i64 code)/\wq.cell? ⟨w.heap.size,1,none⟩=some (.int .i64 op)/\wq.cell? ⟨w.heap.size,2,none⟩=some (.slice t f.length x):=by rw[j,<-hF,R];exact⟨by simp[go_sem],by simp[go_sem],by simp[go_sem]⟩
 have ap:w.heap.size<wq.heap.size:=by rw[j];simp
 rw[<-j];clear j U S hF af al aw R;have z:=Af (zG wq y);have Z:Hid (Below g w wq):=Ua (Below.refl _ _) y (λar hj=>by simp only[E9]at hj;omega) BS;clear K N G D E H J F M O B I y;obtain⟨an,⟨K,N,G,D,E,H⟩,J,F,M,O,B,I⟩:=z.box;go_region_law(first|(go_loud (refine Gf rfl rfl (GR.put (m:=1) _ (es:=[⟨code,⟨op,f⟩⟩]) (cs:=[.int .i64 code,.int .i64 op,.slice t f.length x]) X.drew BS yFg (.head _) yBj BS rfl) rfl rfl ?_;rintro v6 w6⟨C,T⟩;obtain⟨a6,c6,m6,rfl⟩:=C.form;have Q:=Af (And.intro C (RN T));clear C T;obtain⟨-,⟨K,N,G,D,E,H⟩,J,F,M,O,B,I⟩:=PB6.box (B6.grown z Q.2 (λe=>(by have:=V _ e;omega))))));all_goals
  by_cases h7:code=7;{subst h7;go_wp2;go_end0;have S:=En.put Y z V Q Z (EL ae) false;exact⟨⟨_,rfl⟩,by simpa using S.1.base true,S.2.setCell (EL Y) _⟩};have ay:(code==7)=false:=by rw[DV];omega
  go_wp2;go_end0;exact⟨⟨_,rfl⟩,En.put Y z V Q Z (EL ae) false⟩
def LO(w:AU)(p g P k n:Nat):Prop:=∃(bits forks:Int)(ba fr:Bool),En w p g P k n bits forks ba fr/\0<=bits/\bits<=16/\0<=forks/\forks<=8
def PU(w:AU)(p g P k n:Nat)(bits forks:Int):Prop:=∃e,En w p g P k n bits forks e true
def zr0{p:Prop}(h:p:=by exact⟨b - 1,_,_,j+1,(HP2.bits (b - 1)).later BS BS BS,BS,BS,BS,BS,DK _,(HB2.out).setCell (EL dG) _⟩):p:=h
theorem SD(p g P k n:Nat)(bits forks:Int)(ba fr:Bool)(w:AU)(h:En w p g P k n bits forks ba fr)(aa:0<=bits)(ae:bits<=16)(hP:P<=9000000)(hn:n<=80000):
  Calls prog 72 #[AH p] w λe w'=>(∃v,e=.returned v)/\PU w' p g (P+1000) k (n+20) (if 1<bits then 1 else bits) forks/\Below g w w':=by
 have X:=BX h;have dG:=h.1;clear h;obtain⟨z,I⟩:∃z:Int,z=(if 1<bits then 1 else bits):=⟨_,rfl⟩;rw[<-I];have xu:=BX I;clear I;go_enter func72,ntmps72;go_wp2;go_loopg [] bits.toNat (λm wr=>∃(b:Int)(E t:Bool)(j:Nat),En wr p g (P+60*j) k (n+j) b forks E t/\0<=b/\b+j=bits/\(1<bits\/j=0)/\(j=0\/1<=b)/\b.toNat<=m/\Below g w wr);case atStart=>exact⟨bits,ba,fr,0,X.later BS (DK _) BS,aa,BS,.inr rfl,.inl rfl,DK _,BP _ _⟩
 case round=>
  obtain⟨b,E,t,j,D,hb,ad,hx,hy,hm,B⟩:=hrel;have l:=BX D;have ai:=Jb D.rd;have ah:g<=w.heap.size:=by have:=Jb X.rd;omega
  have⟨a,c,m,af,⟨x0,x1,x2,x3,x4,x5⟩,f0,f1,f2,f3,f4,f5⟩:=D.box;have ag:IntKind.i64.wrap (b - 1)=b - 1:=xAe;clear D;by_cases h1:1<b
  .cases E
   .go_wp2_with (first|(go_at_call 10;refine(Ew g _ _ _ l.rd BS BS BS).mo ?_;rintro e A⟨x,rfl,ab,ac,H,C⟩;have G:=BX (l.grown C H);have F:=BX (Ua B C (λq hq=>C3) BS))|(go_at_call 70;refine(P7 _ BS p g _ k _ b forks _ _ _ G BS BS).mo ?_;rintro e y⟨⟨J,rfl⟩,f,o⟩;have HP2:=f.later (DK _) (DK _) (DK _);have⟨a2,Q,Z,V,⟨y0,S,Y,T,M,O⟩,g0,N,g2,R,U,K⟩:=f.box;have HB2:=BX ((F.out).tr o)));all_goals
     go_roundg (b - 1).toNat
     rotate_left
     {omega};exact zr0
   by_cases h2:b=2
   .subst h2;go_wp2_with(go_at_call 70;refine(P7 _ BS p g _ k _ 2 forks _ _ _ l BS BS).mo ?_;rintro e y⟨⟨J,rfl⟩,f,o⟩;have HP2:=f.later (DK _) (DK _) (DK _);have⟨a2,Q,Z,V,⟨y0,S,Y,T,M,O⟩,g0,N,g2,R,U,K⟩:=f.box;have HB2:=BX ((B).tr o));all_goals
     go_roundg ((2:Int) - 1).toNat
     rotate_left
     {omega};exact⟨(2:Int) - 1,_,_,j+1,(show En _ p g _ _ _ ((2:Int) - 1) forks _ _ from HP2.bits 1).later BS BS BS,BS,BS,BS,BS,DK _,(HB2.out).s (EL dG) _⟩
   go_wp2_with (first|(go_at_call 10;refine(Ew g _ _ _ l.rd BS BS BS).mo ?_;rintro e A⟨x,rfl,ab,ac,H,C⟩;have G:=BX (l.grown C H);have F:=BX (Ua B C (λq hq=>C3) BS))|(go_at_call 70;refine(P7 _ BS p g _ k _ b forks _ _ _ G BS BS).mo ?_;rintro e y⟨⟨J,rfl⟩,f,o⟩;have HP2:=f.later (DK _) (DK _) (DK _);have⟨a2,Q,Z,V,⟨y0,S,Y,T,M,O⟩,g0,N,g2,R,U,K⟩:=f.box;have HB2:=BX ((F.out).tr o)));all_goals
    go_roundg (b - 1).toNat
    rotate_left
    {omega};exact zr0
  .obtain rfl:z=b:=by
    rw[xu.out];split<;>omega
   cases t
   .go_wp2_with (go_at_call 70;refine(P7 _ BS p g _ k _ z forks _ _ _ l BS BS).mo ?_;rintro e y⟨⟨J,rfl⟩,f,o⟩)
    go_end0
    exact⟨⟨_,rfl⟩,⟨_,f.later BS BS BS⟩,B.tr o⟩
   .go_wp2
    go_end0
    exact⟨⟨_,rfl⟩,⟨_,l.later BS BS BS⟩,B⟩
theorem En.last{w:AU}{bits forks:Int}(h:En w p g P (k+1) n bits forks ba fr):∃(b m c:Nat)(code:Int),NF w p g (AE (some (AK b 0)) (m+1) c) bits forks ba fr/\b<w.heap.size/\w.cell? (AK b (m*3))=some (AB code)/\m+1<=n/\m<c:=by
 obtain⟨J,v,f,l,K,D,C,_,j,_⟩:=h;obtain⟨a,c,rfl,F,y,H⟩:=L2 D;obtain⟨⟨b,o,sp⟩,rfl⟩:∃x,a=some x:=by cases a with|none=>exact absurd rfl (H BS)|some x=>exact⟨x,rfl⟩
 obtain⟨rfl,rfl,_,_,z,E⟩:=y b o sp rfl;obtain⟨m,B⟩:∃m,l.length=m+1:=⟨l.length - 1,BS⟩;have⟨I,e,A⟩:=O8.get (k:=3) (C.2 _ Av) (by intro t G;obtain⟨x,_,rfl⟩:=BM.1 G;rfl) m (by rw[DZ];omega);rw[FW]at e;obtain⟨u,rfl,_⟩:=Qk.1 e;have:=F.1;rw[B]at f this j;exact⟨b,m,c,_,PB6.box f,z,E _ _ (A 0 _ rfl),j.2,BS⟩
def zc{p:Prop}(h:p:=by go_wp2_with(go_at_call 70;refine(P7 _ BS p g _ _ _ _ _ _ _ _ cO BS BS).mo ?_;rintro e w2⟨⟨v2,rfl⟩,hpl2,hb2⟩;have HP2:=hpl2.later (DK _) (DK _) (DK _);have⟨a2,c2,m2,dK,⟨z0,z1,z2,z3,z4,z5⟩,j0,j1,j2,j3,j4,j5⟩:=hpl2.box;have HB2:=BX ((HB1.out).tr hb2));go_end0;exact⟨⟨_,rfl⟩,⟨bits,forks,_,_,HP2.later BS BS BS,BS,BS,BS,BS⟩,HB2.out⟩):p:=h
def ze{p:Prop}(h:p:=by go_wp2;go_end0;exact⟨⟨_,rfl⟩,⟨bits,forks,_,_,cO.later BS BS BS,BS,BS,BS,BS⟩,HB1.out⟩):p:=h
def za0 {p:Prop}(h:p:=by
 by_cases hc:bits<16
 .go_wp2_with (go_at_call 70;refine(P7 _ BS p g _ _ _ _ _ _ _ _ cO BS BS).mo ?_;rintro e w2⟨⟨v2,rfl⟩,hpl2,hb2⟩;have HP2:=hpl2.later (DK _) (DK _) (DK _);have⟨a2,c2,m2,dK,⟨z0,z1,z2,z3,z4,z5⟩,j0,j1,j2,j3,j4,j5⟩:=hpl2.box;have HB2:=BX ((HB1.out).tr hb2));go_end0;exact⟨⟨_,rfl⟩,⟨bits+1,forks,_,_,(HP2.bits (bits+1)).later BS BS BS,BS,BS,BS,BS⟩,(HB2.out).setCell (EL dG) _⟩
 exact ze):p:=h
def zb0{p:Prop}(h:p:=by go_wp2_with(go_at_call 70;refine(P7 _ BS p g _ _ _ _ _ _ _ _ cO BS BS).mo ?_;rintro e w2⟨⟨v2,rfl⟩,hpl2,hb2⟩;have HP2:=hpl2.later (DK _) (DK _) (DK _);have⟨a2,c2,m2,dK,⟨z0,z1,z2,z3,z4,z5⟩,j0,j1,j2,j3,j4,j5⟩:=hpl2.box;have HB2:=BX ((HB1.out).tr hb2));go_end0;exact⟨⟨_,rfl⟩,⟨bits - 1,forks,_,_,(HP2.bits (bits - 1)).later BS BS BS,BS,BS,BS,BS⟩,(HB2.out).setCell (EL dG) _⟩):p:=h
theorem oZ(p g P k n:Nat)(bits forks:Int)(ba fr:Bool)(w:AU)(h:En w p g P k n bits forks ba fr)(ab:0<=bits)(O:bits<=16)(aj:0<=forks)(av:forks<=8)(hP:P<=8900000)(hn:n<=79000):
  Calls prog 71 #[AH p] w λe w'=>(∃v,e=.returned v)/\LO w' p g (P+1100) k (n+25)/\Below g w w':=by
 have D:Hid (En w p g P k n bits forks ba fr):=h;have dG:=h.1;have ao:=Jb h.rd;have⟨a,c,m,al,⟨x0,x1,Y,S,U,x5⟩,f0,V,f2,f3,Q,f5⟩:=h.box;clear h;have aw:IntKind.i64.wrap (bits+1)=bits+1:=xAe;have au:IntKind.i64.wrap (bits - 1)=bits - 1:=xAe;have F:IntKind.i64.wrap (forks+1)=forks+1:=xAe;have ax:IntKind.i64.wrap (forks - 1)=forks - 1:=xAe;go_enter func71,ntmps71;go_upto_if 6 with fail;go_cut [2] (λs wc=>∃low:Int,s=AB low/\1<=low/\low<=2/\w=wc);case first=>cases ba;{go_wp2;go_meet;exact⟨1,rfl,BS,BS,rfl⟩};go_wp2;go_meet;exact⟨2,rfl,BS,BS,rfl⟩
 case rest=>obtain⟨low,rfl,az,ag,rfl⟩:=hcut;go_upto_region 9 with(go_at_call 10;refine(Ew g _ _ _ D.rd BS BS BS).mo ?_;rintro e J⟨x,rfl,B,G,C,H⟩;have cO:Hid (En J p g (P+1) k n bits forks ba fr):=D.grown H C;have HB1:Hid (Below g w J):=Ua (BP _ _) H (λq hq=>C3) BS;have aA:=Jb C;have⟨a1,c1,m1,sG,⟨y0,y1,y2,y3,y4,y5⟩,g0,g1,g2,g3,g4,g5⟩:=cO.box);clear D x0 x1 Y S U x5 f0 V f2 f3 Q f5 H C;have T:x=0\/x=1\/x=2\/x=3\/x=4\/x=5\/x=6\/x=7\/x=8\/x=9\/x=10:=BS;clear B G;rcases T with rfl|rfl|rfl|rfl|rfl|rfl|rfl|rfl|rfl|rfl|rfl;{exact za0};{exact za0};{exact zc};{exact zc};{by_cases hc:low<=bits;{exact zc};exact ze};{by_cases hc:low<=bits;{go_wp2_with (first|(go_at_call 10;refine(Ew g _ _ _ cO.rd BS BS BS).mo ?_;rintro e f⟨x,rfl,B,G,A,j⟩;have o:Hid (En f p g (P+1+1) k n bits forks ba fr):=cO.grown j A;have y:Hid (Below g w f):=Ua HB1 j (λq hq=>C3) BS)|(go_at_call 70;refine(P7 _ BS p g _ _ _ _ _ _ _ _ o BS BS).mo ?_;rintro e w2⟨⟨v2,rfl⟩,hpl2,hb2⟩;have HP2:=hpl2.later (DK _) (DK _) (DK _);have⟨a2,c2,m2,dK,⟨z0,z1,z2,z3,z4,z5⟩,j0,j1,j2,j3,j4,j5⟩:=hpl2.box;have HB2:Hid (Below g w w2):=(y.out).tr hb2));{go_end0;exact⟨⟨_,rfl⟩,⟨bits,forks,_,_,HP2.later BS BS BS,BS,BS,BS,BS⟩,HB2.out⟩};go_end0;exact⟨⟨_,rfl⟩,⟨bits,forks,_,_,o.later BS BS BS,BS,BS,BS,BS⟩,y.out⟩};exact ze};{by_cases hc:1<bits;{exact zb0};exact ze};{by_cases hc:low<bits;{exact zb0};exact ze};{by_cases hc:bits=1;{exact zc};exact ze};{by_cases hc:bits=1;{by_cases hd:forks<8;{go_wp2_with (go_at_call 70;refine(P7 _ BS p g _ _ _ _ _ _ _ _ cO BS BS).mo ?_;rintro e w2⟨⟨v2,rfl⟩,hpl2,hb2⟩;have HP2:=hpl2.later (DK _) (DK _) (DK _);have⟨a2,c2,m2,dK,⟨z0,z1,z2,z3,z4,z5⟩,j0,j1,j2,j3,j4,j5⟩:=hpl2.box;have HB2:Hid (Below g w w2):=(HB1.out).tr hb2);go_end0;exact⟨⟨_,rfl⟩,⟨bits,forks+1,_,_,(HP2.forks (forks+1)).later BS BS BS,BS,BS,BS,BS⟩,(HB2.out).s (EL dG) _⟩};exact ze};exact ze};by_cases hc:0<forks;{have t:0<=(if 1<bits then 1 else bits)/\(if 1<bits then 1 else bits)<=16:=(by split<;>omega);go_upto_region 7 with(first|(go_at_call 72;refine(SD p g _ _ _ _ _ _ _ _ cO ab O BS BS).mo ?_;rintro e wc⟨⟨vc,rfl⟩,⟨af,z⟩,aa⟩;have I:=z.later (DK _) (DK _) (DK _);have ae:Hid (Below g w wc):=(HB1.out).tr aa;have⟨a3,c3,m3,ak,⟨u0,u1,u2,u3,u4,u5⟩,i0,i1,i2,i3,i4,i5⟩:=z.box;have ai:=Jb z.rd)|(go_at_call 10;refine(Ew g _ _ _ I.rd BS BS BS).mo ?_;rintro e f⟨x,rfl,B,G,A,j⟩;have ay:IntKind.i64.wrap (8+x)=8+x:=yDa;have o:Hid (En f p g (P+1+1000+1) k (n+20) (if 1<bits then 1 else bits) forks af true):=I.grown j A;have y:Hid (Below g w f):=Ua ae j (λq hq=>C3) BS)|(go_at_call 70;refine(P7 _ BS p g _ _ _ _ _ _ _ _ o BS BS).mo ?_;rintro e w2⟨⟨v2,rfl⟩,hpl2,hb2⟩;have HP2:=hpl2.later (DK _) (DK _) (DK _);have⟨b2,m2,c2,X,⟨dK,⟨z0,z1,z2,z3,z4,z5⟩,j0,j1,j2,j3,j4,j5⟩,ah,N,ar,an⟩:=hpl2.last;have HB2:Hid (Below g w w2):=(y.out).tr hb2));have ap:IntKind.i64.wrap (((m2+1:Nat):Int) - 1)=(m2:Int):=xAe;(have ad:=cell_regrown z1;have Z:=cell_regrown N;refine wp_region_quiet_below BW BW ?_;repeat(go_big_quiet_step ((fail))));refine wpQuiet_nil ?_;intro _ ac;obtain⟨⟨M,osq⟩,R⟩:=ac;subst R;clear ad Z;have l:=below_regrown w2 M osq;have⟨w3,F⟩:=AA (grow (redrawn w2 M) osq);rw[<-F]at l⊢;clear F;have E:=HP2.grown (grown_below l (some g)) (Qo HP2.rd (grown_below l none) BU);have K:Hid (Below g w w3):=Ua HB2 (grown_below l none) (λq hq=>by cases hq) BS;clear z0 z1 z2 z3 z4 z5 j0 j1 j2 j3 j4 j5 N;have⟨a4,c4,m4,o8,⟨z0,z1,z2,z3,z4,z5⟩,j0,j1,j2,j3,j4,j5⟩:=E.box;by_cases hd:X=9;{go_wp2;go_end0;exact⟨⟨_,rfl⟩,⟨_,forks - 1,_,_,(E.forks (forks - 1)).later BS BS BS,t.1,t.2,BS,BS⟩,(K.out).s (EL dG) _⟩};go_wp2;go_end0;exact⟨⟨_,rfl⟩,⟨_,forks,_,_,E.later BS BS BS,t.1,t.2,BS,BS⟩,K.out⟩};exact ze
end
variable {W:AU}{fuel:Nat}
theorem Axr(l:List Stil.Aw)(v:AW)(w:AU)(bs:List Nat)(ts:Ao)(h:Sv w bs ts)(ac:Gn w v l)(hl:l.length<=999999)(Q:∀x∈l,x.fits):
  Calls prog 51 #[v] w (GQ Ol 3 77 l w bs ts):=by
 obtain⟨a,cap,rfl,S⟩:=ac;have Z:=Af S;have HF:=Af Q;have ag:=h.1;have V:=h.box (.cells #[] 77);clear S Q h;go_enter func51,ntmps51;go_wp2;go_loopw [3,4] (λd i wr=>∃(j:Nat)(L:List Stil.Aw)(ra:Option Ab)(rc:Nat)(xs:List AW),j<=l.length/\i=AB j/\Hid (L=l.take j)/\L.length<=999999/\d=AE ra L.length rc/\wr.ownsRow w.heap.size 77 3 (AE ra L.length rc) L.length xs/\Sv wr (ob (AE ra L.length rc)++bs) ((Cc L,xs)::ts)/\AO w wr) (λ_ i _=>l.length - (intOf i).toNat);case atStart=>refine⟨0,[],some (AL w 0),0,[],BS,rfl,rfl,BU,rfl,?_,V.nil,BV⟩;have:=World.ownsRow_lit (base:=w.heap.size) (e:=77) (size:=3) w #[] 0 BU CH rfl;simpa using this
 case round=>obtain⟨j,L,ra,rc,xs,hj,rfl,HL,gU,rfl,hown,hS,hb⟩:=hrel;by_cases D:j<l.length;{obtain⟨b,o,rfl,M,O⟩:=Z j D;have⟨A,C,av,K,J⟩:=O.below hb M;have ab:l[j].O.args.length<=1048576:=(HF _ (DW D)).2.2.1;have aF:Hid (l.take (j+1)=L++[l[j]]):=(by show _=_;rw[HL.out];exact ER D);have hl2:(L++[l[j]]).length<=999999:=(by rw[<-aF.out,FN];omega);have⟨x,R⟩:=AA (l[j]);(rw[<-R]at A C J aF ab hl2;have T:=Af (J.below (Aa wr (.cells #[] 111)).drew);obtain⟨H,E,rfl,-⟩:=J;have m:b<wr.heap.size:=DL M hb.size;have Y:Hid (((wr.alloc (.cells #[] 111)).drew).ownsRow wr.heap.size 111 3 (AE (some (AL wr 0)) 0 0) 0 []):=by exact zua);have iW:=Af (λW(hg:((wr.alloc (.cells #[] 111)).drew).grownBy W (some wr.heap.size))=>(Aa wr (.cells #[] 111)).drew.grown hg BU (λk hk=>by cases hk;exact DK _));have ae:(0:Int)<=(j:Int):=BS;have ad:(j:Int)<(l.length:Int):=BS;clear R O;go_upto_region 5 with fail;go_region_held3 (λI=>(I.c (AK b (o+j*3))=some (AB x.code)/\I.c (AK b (o+j*3+1))=some (AB x.O.op)/\I.c (AK b (o+j*3+2))=some (AE H x.O.args.length E))) (first|with_reducible assumption|with_reducible exact⟨Dj.tr A,Dj.tr C,Dj.tr K⟩|with_reducible exact⟨Dj.tr ((Bc m).tr A),Dj.tr ((Bc m).tr C),Dj.tr ((Bc m).tr K)⟩|with_reducible exact⟨(Bc z).tr t.1,(Bc z).tr t.2.1,(Bc z).tr t.2.2⟩|skip) (first|(refine Gf rfl rfl (Sv.copyDevs (N:=wr.heap.size) (B:=wr.heap.size) _ (hS.box (.cells #[] 111)).drew T.out Y.out (λb hb=>hS.1 b hb) BU CW) rfl rfl ?_;rintro v5 y⟨a5,U,rfl,aa,X⟩;have jK:=iW.out y X;have t:(y.c (AK b (o+j*3))=some (AB x.code)/\y.c (AK b (o+j*3+1))=some (AB x.O.op)/\y.c (AK b (o+j*3+2))=some (AE H x.O.args.length E)):=⟨(jK.cell (p:=(AK b _)) m).tr A,(jK.cell (p:=(AK b _)) m).tr C,(jK.cell (p:=(AK b _)) m).tr K⟩;have z:b<y.heap.size:=DL m jK.size)|(go_loud (refine Gf rfl rfl (Sv.pushM (f:=Ol) (x:=x) (c:=[AB x.code,AB x.O.op,AE a5 x.O.args.length U]) _ kdI (aa.mkI (i:=x.code) (op:=x.O.op) (ds:=x.O.args) Av) (Ax (Ax Av)) Av (λ_=>rfl) (ownsRow_below hown jK) (DR hb.size jK.size) CW) rfl rfl ?_;rintro v6 G⟨a6,c6,rfl,hown6,hS6,aC,-⟩;have F:=aC.block b z (λe=>by have:=(hown.lt _ e.symm).1;omega);have af:(G.c (AK b (o+j*3))=some (AB x.code)/\G.c (AK b (o+j*3+1))=some (AB x.O.op)/\G.c (AK b (o+j*3+2))=some (AE H x.O.args.length E)):=⟨(BE F).tr t.1,(BE F).tr t.2.1,(BE F).tr t.2.2⟩)));all_goals exact zxa};exact z8
def gg(l:List Stil.Aw)(f j:Nat)(m:f<=j)(h:j<l.length):(l.drop f).take (j+1 - f)=(l.drop f).take (j - f)++[l[j]]:=by have e:j+1 - f=(j - f)+1:=BS;rw[e,ER (by rw[List.length_drop];omega),List.getElem_drop];congr 3;omega
theorem Azc{b o cap n:Nat}{l:List Stil.Aw}(t:b<W.heap.size)(h:∀i(hi:i<l.length),Zu W b (o+i*3) l[i])(f m:Nat)(y:f+m<=l.length)(x:n=m):Gn W (AE (some (AK b (o+f*3))) n cap) ((l.drop f).take m):=by
 subst x;have j:((l.drop f).take n).length=n:=by rw[FN,List.length_drop];omega
 refine⟨_,cap,by rw[j],λi hi=>⟨b,o+f*3,rfl,t,?_⟩⟩;rw[j]at hi;have:=h (f+i) BS;rw[List.getElem_take,List.getElem_drop];have e:o+f*3+i*3=o+(f+i)*3:=BS;rw[e];exact this
def K9(c:List Stil.Aw):Tr:=sl (Cc c)
def kd1:Kd 1 46 23:=LF (y:=24) (z:=AG) BZ underlying46 BW BZ rfl
theorem tA(l:List Stil.Aw)(v:AW)(w:AU)(bs:List Nat)(ts:Ao)(h:Sv w bs ts)(X:Gn w v l)(M:∀x∈l,x.fits)(ab:∀a n c,v=.slice a n c->n<=c)(hz:(Be l).1=0):
  Calls prog 20 #[v] w λe w'=>∃a n,e=.returned (.slice a (Ef l).length n)/\Sv w' bs (([sl ((Ef l).map K9)],[.slice a (Ef l).length n])::ts)/\AO w w':=by
 have hl:=Ws hz;have N:=Nw l BS;have e0:Ef l=Dn [] l:=by unfold Ef;rw[BQ BS]
 rw[e0];have av:∀(Q u1:AW)(w:AU),(Instr.field 44 (.agg #[Q,u1]) 0).run prog w=.ok Q w:=λ_ _ _=>by kernel_rfl
 have HF:=Af M;have ac:Hid (∀W,AO w W->Calls prog 19 #[v] W (AN W (.agg #[AB 0,AB 0]))):=by intro W h;have:=Z4 l v W (X.below h) BS M;rwa [N.1,N.2]at this
 obtain⟨a,cap,rfl,V⟩:=X;have ai:=ab _ _ _ rfl;have S:=Af V;have T:=Af h;have dX:=Af h.1;have⟨z,H⟩:=AA l.length;have dN:=BX H;rw[<-H]at hl ac ai⊢;clear V M H N ab hz e0 h;go_enter func20,ntmps20;go_wp2_with(go_at_call 19;refine(ac _ BV).mo ?_;rintro e w1⟨rfl,y⟩);have U:=ownsRow_below (World.ownsRow_lit (base:=w.z) (e:=23) (size:=1) w #[] 0 (DK _) CH rfl) y;have O:=((T.box (.cells #[] 23)).bel y).nil;go_loopw [3,4,5] (λsv fv iv wr=>∃(f j:Nat)(fin:List (List Stil.Aw))(A:Option Ab)(B:Nat)(F:List AW),f<=j/\j<=z/\sv=AE A fin.length B/\fv=AB f/\iv=AB j/\fin.length<=j/\wr.ownsRow w.z 23 1 (AE A fin.length B) fin.length F/\Sv wr (ob (AE A fin.length B)++bs) ((fin.map K9,F)::ts)/\Dn [] l=fin++Dn ((l.drop f).take (j - f)) (l.drop j)/\AO w wr) (λ_ _ i _=>z - (intOf i).toNat);case atStart=>exact⟨0,0,[],some (AL w 0),0,[],BS,BS,rfl,rfl,rfl,BU,by simpa using U,O,rfl,BV⟩
 case round=>
  clear y U O T;obtain⟨f,j,fin,A,B,F,al,hj,rfl,rfl,rfl,ar,hown,hS,Y,t⟩:=hrel;have C:=Af Y;clear Y;by_cases ao:j<z;{have K:j<l.length:=(by have:=dN.out;omega);(obtain⟨b,o,rfl,aa,hn⟩:=S j K;have ak:Hid (∀W,AO wr W->∀i(hi:i<l.length),Zu W b (o+i*3) l[i]):=by intro W hW i hi;have⟨b1,o1,e1,y,h1⟩:=S i hi;simp only[E9,Addr.mk.injEq,Hh]at e1;obtain⟨rfl,rfl⟩:=e1;exact(h1.below t y).below hW (DL y t.size));have⟨x0,_,mD,_,_⟩:=hn.below t aa;have ah:b<wr.z:=DL aa t.size;have G:=rK ((l.drop f).take (j - f)) l j K;rw[<-gg l f j al K]at G;rw[G]at C;have⟨x,hx⟩:=AA (l[j]);rw[<-hx]at x0 C;clear hx hn G;have m:=C.out;clear C;by_cases D:x.code=11;{rw[BR D]at m;rw[D]at x0;have k1:(0:Int)<=(f:Int):=BS;have k2:(f:Int)<=(j:Int)+1:=BS;have k3:(j:Int)+1<=(cap:Int):=BS;have k4:((j:Int)+1).toNat=j+1:=BS;have⟨sub,E⟩:=AA ((l.drop f).take (j+1 - f));have ag:sub.length=j+1 - f:=(by rw[E,FN,List.length_drop];omega);have dA:Gn wr (AE (some (AK b (o+f*3))) (j+1 - f) (cap - f)) sub:=(by rw[E];exact Azc ah (ak wr (BP _ _)) f (j+1 - f) BS rfl);have yg:=Af (Axr sub _ wr _ _ hS dA BS (λad Z=>HF ad (by rw[E]at Z;exact List.mem_of_mem_drop (List.mem_of_mem_take Z))));rw[<-E]at m;have aj:w.z<=wr.z:=t.size;have uw:=BX m;have gY:=Af hS.1;clear E m D ag dA;go_wp2_with(first|(go_at_call 51;refine yg.mo ?_;rintro e w5⟨ra,rc,ys,rfl,an,ae,J⟩;have dw:=ae.ice Av xAz gY.out;have vC:=ownsRow_below hown J;have ap:=J.size)|(at_builtin;go_loud (refine Bi rfl rfl (Sv.pushM (f:=K9) (x:=sub) (c:=[AE ra sub.length rc]) _ kd1 dw (Ax (Ax Av)) Av (λ_=>rfl) vC BS BS) rfl rfl ?_;rintro v7 w7⟨a7,c7,rfl,aY,af,bQ,-⟩)));have dH:AO w w5:=t.tr (J.mo aj);have vI:AO w w7:=dH.grown bQ dH.size (λk hk=>(hown.lt k hk).1);go_wp2;refine⟨⟨j+1,j+1,fin++[sub],a7,c7,_,BS,BS,BU,by go_num,by go_num,?_,aY,af.sub (λ_ h=>h) B8,?_,vI⟩,EX⟩;{simp only[DT,DO,DU];omega};rw[uw.out,Nat.sub_self];simp};rw[BQ D]at m;have uy:=Af m;have au:(x.code==11)=false:=xAq;clear m D;go_wp2;exact⟨⟨f,j+1,fin,A,B,F,BS,BS,rfl,rfl,by go_num,BS,hown,hS,uy.out,t⟩,EX⟩}
  .have R:Dn ((l.drop f).take (j - f)) (l.drop j)=[]:=by
    have e:l.drop j=[]:=IJ yDd;rw[e];rfl
   have I:=C.out;rw[R,EW]at I;have m:=Af I;clear R C I
   go_wp2
   go_ret;have hI:=hS.ice Av C4 dX.out;rw[m.out];exact⟨A,B,rfl,hI.sub (λ_ h=>h) B8,t⟩
open Go.ChangeShapes Go.WideShapes Go.ChangeAt
theorem SY{P:AY}:∀{l:List (String × DataW Unit)}{m:List MemPlace},DataW.LaidVars P W l m->∀{n:String}{d:DataW Unit},(n,d)∈l->
  ∃g t f fuel p,P.globalNamed n=some g/\(P.globals[g]?).map (·.type)=some t/\W.var? P n=some f/\DataW.trod (λ_=>()) P W 0 (λ_=>true) false fuel t f.toList=some (d,p)
 |[],_,_,_,_,j=>absurd j BU
 |(n',C)::r,m,⟨g,t,f,fuel,p,q,z,y,A,B,o,_⟩,n,d,j=>by
  rcases BD.1 j with e|x
  .obtain⟨rfl,rfl⟩:=fX e
   exact⟨g,t,f,fuel,p,z,y,A,B⟩
  .exact SY o x
def OT(k:Nat):DataW Unit:=.agg [.lit (.string (Q5 k).data.toList),.lit (.int .i64 (I7 k)),.lit (.bool (Zf k)),.lit (.bool (Qm k)),.lit (.bool (U0 k))]
def UN:prog.globalNamed "loop.example/stilway/impl.devRows" =some 2:=BW
def Az7:(prog.globals[2]?).map (·.type)=some 250:=BW
def Bag:prog.cellsOf 244=5:=BW
def PS:prog.cellsOf 4=1:=BW
def TK:prog.cellsOf 9=1:=BW
theorem eA{s:ByteArray}{b:ByteArray}(h:s.data.toList=b.data.toList):s=b:=by cases s;cases b;simp at h;rw[h]
theorem vD{cs:Array AW}{p:List MemPlace}(R:W.var? prog "loop.example/stilway/impl.devRows" =some cs)
  (hd:DataW.trod (λ_=>()) prog W 0 (λ_=>true) false fuel 250 cs.toList=some (.agg ((List.range 14).map OT),p)):Ee W:=by
 have T:=λj=>World.var?_cell UN R j;have⟨K,m,_,ex,ac,hl,X⟩:=DataW.trod_array underlying250 hd;have e1:=DataW.agg.inj (fX ex).1;have H:∀k:Nat,k<14->W.cell? (AK 2 (k*5))=some (.string (Q5 k))/\W.cell? (AK 2 (k*5+1))=some (AB (I7 k))/\W.cell? (AK 2 (k*5+2))=some (.bool (Zf k))/\W.cell? (AK 2 (k*5+3))=some (.bool (Qm k))/\W.cell? (AK 2 (k*5+4))=some (.bool (U0 k)):=by
  intro k E;have N:k<K.l:=BS;have J:=X k E;rw[Bag,E7 N]at J;have e2:K[k].1=OT k:=by have:=congrArg (λl=>l[k]?) e1;simp only[OZ,E7 N,MW]at this;rw[E7 (by simpa using E)]at this;simpa using(Ek this).symm
  have⟨A,n,_,O,ab,S,y⟩:=DataW.trod_struct underlying244 J;have B:A.map (·.1)=[.lit (.string (Q5 k).data.toList),.lit (.int .i64 (I7 k)),.lit (.bool (Zf k)),.lit (.bool (Qm k)),.lit (.bool (U0 k))]:=by have F:=congrArg Prod.fst O;rw[e2,OT]at F;exact(DataW.agg.inj F).symm
  obtain⟨x,z,f,e,o,rfl⟩:∃x z f e o,A=[x,z,f,e,o]:=by match A,S with|[x,z,f,e,o],_=>exact⟨_,_,_,_,_,rfl⟩
  simp only[DX,FD,List.cons.injEq,Hh]at B;obtain⟨D,C,M,G,I⟩:=B;have g0:DataW.trod (λ_=>()) prog W 0 (λ_=>true) false n 9 (List.take 1 (List.drop 0 (List.take 5 (List.drop (k*5) cs.toList))))=some x:=by have h:DataW.trod (λ_=>()) prog W 0 (λ_=>true) false n 9 (List.take (prog.cellsOf 9) (List.drop 0 (List.take 5 (List.drop (k*5) cs.toList))))=some x:=y 0 _ rfl;rwa[TK]at h
  have g1:DataW.trod (λ_=>()) prog W 0 (λ_=>true) false n 3 (List.take 1 (List.drop 1 (List.take 5 (List.drop (k*5) cs.toList))))=some z:=by have h:DataW.trod (λ_=>()) prog W 0 (λ_=>true) false n 3 (List.take (prog.cellsOf 3) (List.drop 1 (List.take 5 (List.drop (k*5) cs.toList))))=some z:=y 1 _ rfl;rwa[Bah]at h
  have g2:DataW.trod (λ_=>()) prog W 0 (λ_=>true) false n 4 (List.take 1 (List.drop 2 (List.take 5 (List.drop (k*5) cs.toList))))=some f:=by have h:DataW.trod (λ_=>()) prog W 0 (λ_=>true) false n 4 (List.take (prog.cellsOf 4) (List.drop 2 (List.take 5 (List.drop (k*5) cs.toList))))=some f:=y 2 _ rfl;rwa[PS]at h
  have g3:DataW.trod (λ_=>()) prog W 0 (λ_=>true) false n 4 (List.take 1 (List.drop 3 (List.take 5 (List.drop (k*5) cs.toList))))=some e:=by have h:DataW.trod (λ_=>()) prog W 0 (λ_=>true) false n 4 (List.take (prog.cellsOf 4) (List.drop 3 (List.take 5 (List.drop (k*5) cs.toList))))=some e:=y 3 _ rfl;rwa[PS]at h
  have Q:DataW.trod (λ_=>()) prog W 0 (λ_=>true) false n 4 (List.take 1 (List.drop 4 (List.take 5 (List.drop (k*5) cs.toList))))=some o:=by have h:DataW.trod (λ_=>()) prog W 0 (λ_=>true) false n 4 (List.take (prog.cellsOf 4) (List.drop 4 (List.take 5 (List.drop (k*5) cs.toList))))=some o:=y 4 _ rfl;rwa[PS]at h
  have⟨s0,a0,V,_⟩:=DataW.trod_string underlying9 g0;have⟨s1,Z,b1,_⟩:=DataW.trod_int underlying3 g1;have⟨s2,a2,U⟩:=DataW.trod_bool underlying4 g2;have⟨s3,a3,b3⟩:=DataW.trod_bool underlying4 g3;have⟨s4,a4,b4⟩:=DataW.trod_bool underlying4 Q;subst V b1 U b3 b4;simp only[DataW.lit.injEq,Lit.string.injEq,Lit.int.injEq,Lit.bool.injEq,true_and]at D C M G I;have aa:=eA D;subst aa C M G I;have t:∀(j:Nat)(v:AW),j<5->List.take 1 (List.drop j (List.take 5 (List.drop (k*5) cs.toList)))=[v]->W.cell? (AK 2 (k*5+j))=some v:=by intro j v Y h;rw[T];have:=congrArg (λl=>l[0]?) h;simpa[Bco,Bcp,Y]using this
  exact⟨t 0 _ BS a0,t 1 _ BS Z,t 2 _ BS a2,t 3 _ BS a3,t 4 _ BS a4⟩
 refine⟨?_,H⟩;have:=(H 0 BS).1;exact lt_of_cell this
theorem sx{l:List (String × DataW Unit)}(h:laidMet prog l W)(f:("loop.example/stilway/impl.devRows",DataW.agg ((List.range 14).map OT))∈l):Ee W:=by obtain⟨z,x,_,_⟩:=h;have⟨g,t,y,fuel,p,e,j,o,m⟩:=SY x f;obtain rfl:=Ek (UN.symm.tr e);obtain rfl:=Ek (Az7.symm.tr j);exact vD o m
def cU8:prog.cellsOf 5=1:=BW
def wf_u8{n:Int}(h:(Lit.int .u8 n).wf=true):0<=n/\n<256:=by have:=h;simp[Lit.wf,IntKind.min,IntKind.max,IntKind.signed,IntKind.bits]at this;omega
theorem s7{H:Type}{enc:AZ × AW->H}{v:AW}{x:DataW H × List MemPlace}(h:DataW.trod enc prog W 0 (λ_=>true) true fuel 22 [v]=some x):BytesAt W v:=by
 rcases Deep.open_slice underlying22 h with⟨j,_⟩|⟨a,len,cap,m,n,D,N,j,_,E,G,A,_,C⟩
 .obtain rfl:v=.slice none 0 0:=by simpa using j
  exact⟨none,0,0,rfl,DK _,BS,λi h=>absurd h BU⟩
 obtain rfl:v=.slice (some a) len cap:=by simpa using j
 have M:len<=m:=by rw[A];split<;>omega
 have each:∀i,i<len->∃z:Int,W.c (a.add (i*1))=some (.int .u8 z)/\0<=z/\z<256:=by intro i hi;have⟨K,f,B⟩:=C i BS;rw[cU8]at f;have⟨_,O,t⟩:=World.cells?_some f;have⟨z,e,_,J⟩:=DataW.trod_int underlying5 B;have l:=t 0 BS;rw[Addr.add_add]at l;rw[e]at l;refine⟨z,by simpa using l,wf_u8 J⟩
 obtain⟨b,o,sp⟩:=a;refine⟨_,len,cap,rfl,E,DR G BZ,λi hi=>?_⟩;have⟨z,e,f⟩:=each i hi;have I:sp=none:=by have⟨y,F,_⟩:=each 0 BS;simpa[Addr.add]using World.cell?_spot F
 subst I;rw[Addr.add_lit,Nat.mul_one]at e;exact⟨b,o,z,rfl,lt_of_cell e,e,f⟩
def fN:prog.globalNamed "loop.example/stilway/impl.listWords" =some 1:=BW
def wv:(prog.globals[1]?).map (·.type)=some 229:=BW
theorem rS{l:List (String × DataW Unit)}(h:laidMet prog l W)(F:("loop.example/stilway/impl.listWords",DataW.agg (Stil.listWords.map λx=>DataW.lit (Lit.string x)))∈l):He W:=by
 obtain⟨S,o,_,_⟩:=h;have⟨g,t,T,fuel,p,J,G,N,Q⟩:=SY o F;obtain rfl:=Ek (fN.symm.tr J);obtain rfl:=Ek (wv.symm.tr G);have E:=λj=>World.var?_cell fN N j;have⟨f,m,_,K,U,o,I⟩:=DataW.trod_array underlying229 Q;have M:(Stil.listWords.map λx=>DataW.lit (H:=Unit) (Lit.string x))=f.map (·.1):=DataW.agg.inj (fX K).1;have z:∀k:Nat,k<12->W.cell? (AK 1 k)=some (.string ⟨(Stil.listWords.getD k []).toArray⟩):=by
  intro k y;have C:k<f.l:=BS;have A:=I k y;rw[TK,E7 C,Nat.mul_one]at A;have⟨s,O,D,_⟩:=DataW.trod_string underlying9 A;have B:k<Stil.listWords.l:=y;have e:f[k].1=.lit (.string (Stil.listWords.getD k [])):=by have:=congrArg (λl=>l[k]?) M;simp only[OZ,E7 C,MW]at this;rw[E7 B]at this;rw[<-Ek this,List.getD,E7 B];rfl
  rw[D]at e;simp only[DataW.lit.injEq,Lit.string.injEq]at e;have R:s=⟨(Stil.listWords.getD k []).toArray⟩:=eA (by rw[e]);rw[E,<-R];have:=congrArg (λl=>l[0]?) O;simpa[Bco,Bcp]using this
 exact⟨lt_of_cell (z 0 BS),z⟩
section
variable {L g P:Nat}{w:AU}{bs:List Nat}{ts:List Nh}{i op:Int}{v u c d:AW}{p q r s b:Nat}
theorem StL.mk{us:List Nh}{y:Nh}(h:StL L g P w bs us)(f:∀S,(∀x∈us,ClT S x.1 x.2.1 x.2.2)->ClT S y.1 y.2.1 y.2.2)(j:∀x∈ts,x∈us):StL L g P w bs (y::ts):=(h.add f).sub (λ_ h=>h) (BA.2 ⟨.head _,λx e=>.tail _ (j x e)⟩)
end
section
variable {L g P:Nat}{w:AU}{bs:List Nat}{ts:List Nh}{i op:Int}{v u c d:AW}{p q r s b:Nat}
theorem StL.leaf (h:StL L g P w bs ((12,1,[c])::(2,q,[AB op,v])::ts)):StL L g P w bs ((6,3,[AB 1,AB op,v,AG,c,AG])::ts):=(h.add (y:=(6,3,_)) λS hS=>by
  have⟨e,f⟩:=ClT.el (hS (2,q,[AB op,v]) (Ax Av))
  exact ClT.mkA BZ e f (SlT.nil (s:=0)) (ClT.sl (k:=2) (hS (12,1,[c]) Av)) (SlT.nil (s:=0)) (show 0+1+0+1<3 by decide)).un.un
theorem StL.wrap(h:StL L g P w bs ((16,r,[d])::ts)):StL L g P w bs ((6,r+2,[AB 0,AB 0,AG,AG,AG,d])::ts):=(h.add (y:=(6,r+2,_)) λS hS=>ClT.mkA BZ BZ SlT.nil (SlT.nil (s:=0)) (SlT.nil (s:=0)) (ClT.sl (k:=6) (hS (16,r,[d]) Av)) (show 0+0+r+1<r+2 by omega)).un
def StL.renet {j f:Int}{v0 l:AW}(h:StL L g P w bs ((2,q,[AB op,v])::(6,s,[AB j,AB f,v0,l,c,d])::ts)):StL L g P w bs ((6,s,[AB 1,AB op,v,AG,c,d])::ts):=(h.add (y:=(6,s,_)) λS hS=>by
  have⟨t,z⟩:=ClT.el (hS (2,q,[AB op,v]) Av);have⟨A,m,e,_,_,_,_,B,x,o⟩:=ClT.am (hS (6,s,[AB j,AB f,v0,l,c,d]) (Ax Av));replace o:A+m+e+1<s:=o
  exact ClT.mkA BZ t z (SlT.nil (s:=0)) B x (show 0+m+e+1<s by omega)).un.un
end
def FkT(w e:AU)(B g Q s:Nat)(bs:List Nat)(ts:List Nh):Prop:=∃(i o:Int)(y:Option Ab)(t C:Nat)(m:Option Ab)(f j:Nat)(A:Option Ab)(l z:Nat)(D:Option Ab)(x h:Nat),G3 e w.heap.size 0 0 AG AG AG AG/\G3 e B i o (AE y t C) (AE m f j) (AE A l z) (AE D x h)/\St g Q e (B::w.heap.size::bs) ((6,s,[AB i,AB o,AE y t C,AE m f j,AE A l z,AE D x h])::ts)/\w.grownBy e (some g)
theorem yt(n g P:Nat)(w:World)(bs:List Nat)(ts:List Nh)(hn:n<=20)(h:St g P w bs ts)(hP:P<=100000000):
    Calls prog 44 #[.pointer (some ⟨g,0,none⟩),.int .i64 n] w (ArR g (P+5000) 200 w bs ts):=by
 have zC:∀(W:World)(B:Nat)(i o:Int)(a b c d f:Value)(x y:Obj),G3 W B i o a b c d->G3 ((((((((W.setCell ⟨B,0,none⟩ (.int .i64 0)).setCell ⟨B,1,none⟩ (.int .i64 0)).setCell ⟨B,2,none⟩ (.slice none 0 0)).setCell ⟨B,3,none⟩ (.slice none 0 0)).setCell ⟨B,4,none⟩ (.slice none 0 0)).setCell ⟨B,5,none⟩ f).alloc x).alloc y) B 0 0 (.slice none 0 0) (.slice none 0 0) (.slice none 0 0) f:=by intro W B i o a b c d f x y h;obtain⟨X,q6,q7,R,Z,ab,ad,p6,Y,p8,U,S,ae⟩:=h;refine⟨CN,CU,CU,CU,CU,CU,CU,?_,?_,?_,?_,?_,?_⟩<;>(repeat(first|with_reducible assumption|with_reducible refine Oz.trans ?_|with_reducible refine(Hl CN).trans ?_))
 have hg:=Jb h.rd;have hS:=h.box (.cells #[.int .i64 0,.int .i64 0,.slice none 0 0,.slice none 0 0,.slice none 0 0,.slice none 0 0] 59);clear h;go_enter func44,ntmps44;go_wp2_with(first|(go_at_call 33;refine(Hr g _ _ (hS).rd BS).mono ?_;rintro af wa f;obtain⟨op,aa,na,ca,rfl,hS,e⟩:=(hS).el f BZ;obtain⟨ac,I,p0,q1,p1,H,O,K,p3,M,p4,N,V⟩:IW wa w.heap.size:=I6;have m:=Eu (show w.grownBy _ (some g) from Br) e;clear f e)|(go_at_call 34;refine(Ql g _ _ (hS).rd BS).mono ?_;rintro af wb f;obtain⟨lY,z,y,A,rfl,hS,e⟩:=(hS).el f BZ;obtain⟨ac,I,p0,q1,p1,H,O,K,p3,M,p4,N,V⟩:IW wb w.heap.size:=I6;have m:=Eu (show w.grownBy _ (some g) from Br) e;clear f e));have ag:FkT w ((wb.alloc (.cells #[.int .i64 lY,.slice z y A] 53)).alloc (.cells #[.int .i64 1,.int .i64 op,.slice aa na ca,.slice none 0 0,.slice (some ⟨wb.heap.size,0,none⟩) 1 1,.slice none 0 0] 59)) (wb.heap.size+1) g (P+60) 3 bs ts:=by have hL:=(((hS.lit1 (n:=wb.heap.size) #[.int .i64 lY,.slice z y A] 53 BZ rfl rfl).leaf).box (.cells #[.int .i64 1,.int .i64 op,.slice aa na ca,.slice none 0 0,.slice (some ⟨wb.heap.size,0,none⟩) 1 1,.slice none 0 0] 59)).mono (Q:=P+60) BS;rw[World.size_alloc]at hL;exact⟨1,op,aa,na,ca,none,0,0,_,1,1,none,0,0,CO,CO,hL,Br⟩
 obtain⟨B,ah⟩:∃B,B=wb.heap.size+1:=⟨_,rfl⟩;have al:w.heap.size<B:=BS;rw[<-ah]at ag;rw[<-ah];clear ah hS m;go_loopw [6] (λi wr=>∃j:Nat,j<=n/\i=.int .i64 j/\FkT w wr B g (P+60+100*j) (3+5*j) bs ts) (λi _=>n - (intOf i).toNat);case atStart=>exact⟨0,BS,rfl,ag⟩
 case round=>
  clear ag;obtain⟨j,hj,rfl,i1,o1,a1,T,c1,z,y,A,G,E,J,D,F,C,t,l,hS,m⟩:=hrel;obtain⟨X,q6,q7,R,Z,ab,ad,p6,Y,p8,U,S,ae⟩:=id l;by_cases aj:j<n
  . go_upto_region 5 with fail
    go_cut [] (λwq=>FkT w wq B g (P+120+100*j) (8+5*j) bs ts)
    case first=>
     go_region_law(first|(go_simp;go_at_call 33;refine(Hr g _ _ hS.drew.rd BS).mono ?_;rintro af w5 f;obtain⟨o3,b3,m3,d3,rfl,hS,aH⟩:=hS.drew.el f BZ;have e:wr.grownBy w5 (some g):=⟨aH.os,aH.tape,aH.output,aH.size,aH.block⟩;have t:=t.G e Bw;have l:=l.G e Bw;have m:=Eu m e;obtain⟨X,q6,q7,R,Z,ab,ad,p6,Y,p8,U,S,ae⟩:=id l)|(go_simp;go_at_call 34;refine(Ql g _ _ hS.rd BS).mono ?_;rintro af w6 f;obtain⟨o4,b4,m4,d4,rfl,hS,e⟩:=hS.el f BZ;have t:=t.G e Bw;have l:=l.G e Bw;have m:=Eu m e;obtain⟨X,q6,q7,R,Z,ab,ad,p6,Y,p8,U,S,ae⟩:=id l))
     all_goals go_wp2
     all_goals go_meet
     all_goals
      obtain⟨ac,I,q1,H,K,M,N,p0,p1,O,p3,p4,V⟩:=id t;have hL:=λx1 x2 x3 x4 x5 x6=>((((hS.set6 (o1:=0) (o2:=1) (o3:=2) (o4:=3) (o5:=4) (o6:=5) (x1:=x1) (x2:=x2) (x3:=x3) (x4:=x4) (x5:=x5) (x6:=x6) (.head _)).lit1 (n:=w6.heap.size) #[.int .i64 o4,.slice b4 m4 d4] 53 BZ rfl BU).leaf).lit (s:=6+5*j) (n:=w6.heap.size+1) [(3+5*j,[.int .i64 i1,.int .i64 o1,.slice a1 T c1,.slice z y A,.slice G E J,.slice D F C]),(3,[.int .i64 1,.int .i64 o3,.slice b3 m3 d3,.slice none 0 0,.slice (some ⟨w6.heap.size,0,none⟩) 1 1,.slice none 0 0])] #[.int .i64 i1,.int .i64 o1,.slice a1 T c1,.slice z y A,.slice G E J,.slice D F C,.int .i64 1,.int .i64 o3,.slice b3 m3 d3,.slice none 0 0,.slice (some ⟨w6.heap.size,0,none⟩) 1 1,.slice none 0 0] 59 BZ BU rfl (by simp[tot];omega) BU BU).un.un.wrap
      exact⟨0,0,none,0,0,none,0,0,none,0,0,some ⟨w6.heap.size+1,0,none⟩,2,2,G3.G t (r:=some B) (Pm (Pm (Eu (Eu (Eu (Eu (Eu (I5 _ _ _ _) (I5 _ _ _ _)) (I5 _ _ _ _)) (I5 _ _ _ _)) (I5 _ _ _ _)) (I5 _ _ _ _)) _) _) (by simp;omega),zC _ _ _ _ _ _ _ _ _ _ _ l,((hL _ _ _ _ _ _).mono BS).grew BS,Br⟩
    case rest=>
      clear t l hS m q6 q7 R Z ab ad p6 Y p8 U S ae X;obtain⟨i1,o1,a1,T,c1,z,y,A,G,E,J,D,F,C,t,l,hS,m⟩:=hcut;obtain⟨ac,I,q1,H,K,M,N,p0,p1,O,p3,p4,V⟩:=id t;obtain⟨X,q6,q7,R,Z,ab,ad,p6,Y,p8,U,S,ae⟩:=id l;clear t l
      go_wp2_with(first|(go_at_call_of 10 (Value.int IntKind.i64 2);refine(Ew g _ _ _ ((hS).rd) BS BS BS).mono ?_;rintro af wd⟨x,rfl,ak,an,ai,e⟩;have hS:=(hS).go ai e;obtain⟨ac,I,p0,q1,p1,H,O,K,p3,M,p4,N,V⟩:IW wd w.heap.size:=I6;obtain⟨X,q6,p6,q7,Y,R,p8,Z,U,ab,S,ad,ae⟩:D3 wd B (.int .i64 i1) (.int .i64 o1) (.slice a1 T c1) (.slice z y A) (.slice G E J) (.slice D F C):=qb6;have m:=Eu (show w.grownBy _ (some g) from Br) e;clear ai e)|(go_at_call 33;refine(Hr g _ _ (hS).rd BS).mono ?_;rintro af we f;obtain⟨nO,ea,en,ec,rfl,hS,e⟩:=(hS).el f BZ;obtain⟨ac,I,p0,q1,p1,H,O,K,p3,M,p4,N,V⟩:IW we w.heap.size:=I6;obtain⟨X,q6,p6,q7,Y,R,p8,Z,U,ab,S,ad,ae⟩:D3 we B (.int .i64 i1) (.int .i64 o1) (.slice a1 T c1) (.slice z y A) (.slice G E J) (.slice D F C):=qb6;have m:=Eu (show w.grownBy _ (some g) from Br) e;clear f e))
      . exact⟨⟨j+1,BS,by go_num,1,nO,ea,en,ec,none,0,0,G,E,J,D,F,C,CO,CO,((hS.renet.set4 (.head _)).mono BS).grew BS,Br⟩,by simp[intOf];omega⟩
      . exact⟨⟨j+1,BS,by go_num,i1,o1,a1,T,c1,z,y,A,G,E,J,D,F,C,CO,CO,(hS.mono BS).grew BS,Br⟩,by simp[intOf];omega⟩
  . obtain rfl:j=n:=by omega
    obtain⟨ac,I,q1,H,K,M,N,p0,p1,O,p3,p4,V⟩:=id t;clear t l
    go_wp2_with(go_at_call 33;refine(Hr g _ _ (hS).rd BS).mono ?_;rintro af we f;obtain⟨nO,ea,en,ec,rfl,hS,e⟩:=(hS).el f BZ;obtain⟨ac,I,p0,q1,p1,H,O,K,p3,M,p4,N,V⟩:IW we w.heap.size:=I6;obtain⟨X,q6,p6,q7,Y,R,p8,Z,U,ab,S,ad,ae⟩:D3 we B (.int .i64 i1) (.int .i64 o1) (.slice a1 T c1) (.slice z y A) (.slice G E J) (.slice D F C):=qb6;have m:=Eu (show w.grownBy _ (some g) from Br) e;clear f e)
    refine bodyPost_ret (by simp[results,results44,go_sem,I,q1,H,K,M,N];rfl) rfl ?_;exact⟨_,_,_,_,_,_,_,_,_,_,_,_,_,_,rfl,(((hS.renet.set4 (.head _)).set6 (.tail _ (.head _))).drop.drop.mono BS).grew BS,Br⟩
section
variable {a:Option Addr}{k n:Nat}
variable {L g P:Nat}{w:World}{bs:List Nat}{ts:List Nh}{i op:Int}{v u c d:Value}{p q r s b:Nat}
theorem StL.coiled {us:List Nh}(h:StL L g P w bs us)(l:(4,p,[AB i,AB op,v,u])∈us)(m:(12,q,[c])∈us)(z:∀x∈ts,x∈us)(B:p+q<s):StL L g P w bs ((6,s,[AB i,AB op,v,u,c,AG])::ts):=h.mk (y:=(6,s,_)) (λS hS=>by
 have⟨t,f,j,A,o,e⟩:=ClT.nt (hS _ l);replace e:t<p:=e
 exact ClT.mkA f j A o (ClT.sl (k:=2) (hS _ m)) (SlT.nil (s:=0)) (show t+q+0+1<s by omega)) z
theorem StL.cut {c m:Nat}(h:StL L g P w bs ((k+10,s,[AE a n c])::ts))(e:m<=n):StL L g P w bs ((k+10,s,[AE a m c])::ts):=h.mk (y:=(k+10,s,_)) (λS hS=>by
 have⟨C,n',D,f,j,t,l,B⟩:=ClT.sl (hS (k+10,s,[AE a n c]) Av);cases f
 exact SlT.cl ⟨a,m,c,rfl,DR e j,DR e t,l,λh=>let ⟨b,o,A,r,x,y,z⟩:=B (DL h e);⟨b,o,A,r,x,DR e y,z⟩⟩) (λ_ h=>.tail _ h)
theorem StL.cap{c:Nat}(h:StL L g P w bs ((k+10,s,[AE a n c])::ts)):n<=c:=by obtain⟨S,_,_,_,j⟩:=h;have⟨l,n',m,f,e,_⟩:=ClT.sl (j (k+10,s,[AE a n c]) Av);cases f;exact e
end
variable {P P' g k k' n n' p:Nat}
def LaL(L g P N:Nat)(w:AU)(bs:List Nat)(ts:List Nh)(e:Ending)(w':AU):Prop:=∃a n c,e=.returned (AE a n c)/\StL L g P w' bs ((16,N,[AE a n c])::ts)/\w.grownBy w' (some g)
def lenV:AW->Nat
 |.slice _ n _=>n
 |_=>0
def LaT(w f:AU)(v:AW)(g Q k:Nat)(bs:List Nat)(ts:List Nh):Prop:=∃e:Ge,e.length=k/\f.ownsRow w.heap.size 59 6 v e.length (flat e)/\tot e<=e.length*800/\St g Q f (ob v++bs) (rowT 6 e++ts)/\w.grownBy f (some g)
theorem ug(g P:Nat)(w:World)(bs:List Nat)(ts:List Nh)(h:St g P w bs ts)(hP:P<=1000000):
  Calls prog 15 #[.pointer (some ⟨g,0,none⟩)] w (LaL 50000 g (P+200000) 4000 w bs ts):=by
 have hg:=Jb h.rd;have M:∀b∈bs,b<w.heap.size:=λb hb=>(h.lt hb).2;have t:(w.alloc (.cells #[] 59)).ownsRow w.heap.size 59 6 (.slice (some ⟨w.heap.size,0,none⟩) 0 0) 0 []:=by have:=World.ownsRow_lit (base:=w.heap.size) (e:=59) (size:=6) w #[] 0 BS CH rfl;simpa using this
 have hS:=h.box (.cells #[] 59);clear h;go_enter func15,ntmps15;go_upto_region 3 with(go_at_call_of 10 (Value.int IntKind.i64 24);refine(Ew g _ _ _ hS.rd BS BS BS).mono ?_;rintro e wa⟨x,rfl,ax,af,z,f⟩;have T:=f.size;rw[World.size_alloc]at T;replace hS:=hS.go z f;replace t:=Gi t f BS;have y:=Eu (show w.grownBy _ (some g) from Br) f;clear z f);by_cases B:x=0
 .subst B;go_wp2_with(first|(go_at_call_of 35 (6:Nat);refine(Xv g _ _ _ [9,15,16,17,18,30] _ (hS.alloc _).rd BS (Df (by simp[Fj,go_sem])) BU CX BU BU).mono ?_;rintro e K⟨x,rfl,B,z,f⟩;simp only[EK,FG,FH]at B;obtain⟨m,rfl⟩:∃m:Nat,x=m:=⟨x.toNat,BS⟩;replace hS:=(hS.alloc _).go z f;have E:=f.size;rw[World.size_alloc]at E;replace t:=Gi (t.alloc _) f BS;have y:=Eu (show w.grownBy _ (some g) from Br) f;clear z f)|(go_at_call 43;refine(yq m g _ _ _ _ BS hS BS).mono ?_;rintro e wd⟨U,N,J,I,H,Q,O,R,rfl,hS,f⟩;have ae:=f.size;replace t:=Gi t f BS;have y:=Eu (show w.grownBy _ (some g) from Br) f;clear f)|(go_at_call 34;refine(Ql g _ _ hS.rd BS).mono ?_;rintro e we ho;obtain⟨op,a,n,c,rfl,hS,f⟩:=hS.el ho BZ;have aE:=f.size;replace t:=Gi t f BS;have y:=Eu (show w.grownBy _ (some g) from Br) f;clear ho f)|(at_builtin;refine Bi rfl rfl (StL.push (v:=(.slice (some ⟨w.heap.size,0,none⟩) 0 0)) (css:=[]) (bs:=bs) (ts:=ts) _ kd6 ((hS.lit1 (n:=we.heap.size) #[.int .i64 op,.slice a n c] 53 BZ rfl rfl).coiled (p:=700) (q:=1) (s:=702) BU BU (λx B=>.tail _ (.tail _ B)) BZ) (t.alloc _) yBd BU) rfl (by rw[World.size_alloc];rfl) ?_;rintro v' w6⟨A,F,C,-⟩;obtain⟨Y,qG,rfl,-⟩:=Ob A));go_ret;exact⟨_,_,_,rfl,((F.ice (s:=702) A M (by simp[tot]) BU).mono BS).grew BZ,JE (Pm y _) C (λk D=>(t.lt _ D).1)⟩
 by_cases af:x=1
 .subst af;go_wp2_with(first|(go_at_call_of 35 (5:Nat);refine(Xv g _ _ _ [5,7,8,9,12] _ (hS.alloc _).rd BS (Df (by simp[Fj,go_sem])) BU CX BU BU).mono ?_;rintro e K⟨x,rfl,B,z,f⟩;simp only[EK,FG,FH]at B;obtain⟨m,rfl⟩:∃m:Nat,x=m:=⟨x.toNat,BS⟩;replace hS:=(hS.alloc _).go z f;have E:=f.size;rw[World.size_alloc]at E;replace t:=Gi (t.alloc _) f BS;have y:=Eu (show w.grownBy _ (some g) from Br) f;clear z f)|(go_at_call 44;refine(yt m g _ _ _ _ BS hS BS).mono ?_;rintro e wd⟨U,N,J,I,H,Q,O,R,a3,n3,c3,a4,n4,c4,rfl,hS,f⟩;have ae:=f.size;replace t:=Gi t f BS;have y:=Eu (show w.grownBy _ (some g) from Br) f;clear f)|(at_builtin;refine Bi rfl rfl (StL.push (v:=(.slice (some ⟨w.heap.size,0,none⟩) 0 0)) (css:=[]) (bs:=bs) (ts:=ts) _ kd6 hS t BS BU) rfl rfl ?_;rintro v' w6⟨A,F,C,-⟩;obtain⟨Y,qG,rfl,-⟩:=Ob A));go_ret;exact⟨_,_,_,rfl,((F.ice (s:=200) A M (by simp[tot]) BU).mono BS).grew BZ,JE y C (λk D=>(t.lt _ D).1)⟩
 by_cases an:x=2
 .subst an;go_wp2;go_ret;exact⟨_,_,_,rfl,((StL.ice (v:=(.slice (some ⟨w.heap.size,0,none⟩) 0 0)) (css:=[]) (ts:=ts) (s:=0) hS t M (DK _) BU).mono BS).grew BZ,y⟩
 go_wp2_with (go_at_call_of 10 (Value.int IntKind.i64 4);refine(Ew g _ _ _ hS.rd BS BS BS).mono ?_;rintro e K⟨av,rfl,ak,az,z,f⟩;have E:=f.size;replace hS:=hS.go z f;replace t:=Gi t f BS;have y:=Eu (show w.grownBy _ (some g) from Br) f;clear z f);obtain⟨y2,ai⟩:=G4 ak;subst ai;have X:LaT w K (.slice (some ⟨w.heap.size,0,none⟩) 0 0) g (P+100+0*40000) 0 bs ts:=⟨[],rfl,t,DK _,hS.mono BS,y⟩;have ad:w.heap.size<=K.heap.size:=BS;clear t hS y T E;have eu:KF 3=40000:=rfl;have al:LW 3=800:=rfl;go_loopw [3,4] (λo i wr=>∃j k:Nat,k+j=1+y2/\i=.int .i64 j/\w.heap.size<=wr.heap.size/\LaT w wr o g (P+100+k*40000) k bs ts) (λ_ i _=>(intOf i).toNat);case atStart=>exact⟨1+y2,0,BS,by go_num,ad,X⟩
 case round=>
  clear X ad;obtain⟨j,k,ap,rfl,ay,css,rfl,t,ah,hS,y⟩:=hrel;obtain⟨a0,c0,rfl,-⟩:=Ob t;by_cases ao:0<j;{have Z:=LV (iq 2 2 true g _ wr _ _ BS rfl hS (by show _+KF 3<=_;omega));simp only[Nat.reduceAdd,eu,al]at Z;go_wp2_with(first|(go_at_call 45;refine Z.mono ?_;rintro e wd⟨U,N,J,I,H,Q,O,R,a3,n3,c3,a4,n4,c4,rfl,hS,f⟩;have ae:=f.size;have t:=Gi t f BS;have y:=Eu y f;clear f)|(at_builtin;refine Bi rfl rfl (StL.push (v:=(.slice a0 css.length c0)) (css:=css) (bs:=bs) (ts:=ts) _ kd6 hS t BS BS) rfl rfl ?_;rintro v' w6⟨A,F,C,-⟩;obtain⟨Y,qG,rfl,-⟩:=Ob A));have fG:=C.size;refine⟨⟨j - 1,css.length+1,BS,by go_num,BS,css++[(800,[.int .i64 U,.int .i64 N,.slice J I H,.slice Q O R,.slice a3 n3 c3,.slice a4 n4 c4])],BU,by rw[DT];exact A,?_,F.mono BS,JE y C (λk D=>(t.lt _ D).1)⟩,by simp[intOf];omega⟩;simp only[tot,D2,KB,DT,DX,FD,FK,MU,DO,DU]at ah⊢;omega};have aw:¬(0:Int)<j:=by omega
  have ab:∃a n c,Value.slice a0 css.length c0=.slice a n c/\St g (P+170000) wr bs ((16,4000,[.slice a n c])::ts)/\w.grownBy wr (some g):=⟨_,_,_,rfl,((hS.ice (s:=4000) t M BS BS).mono BS),y⟩;clear t hS y ah;go_wp2;go_loopw [3] (λo wq=>∃a n c,o=.slice a n c/\St g (P+170000) wq bs ((16,4000,[.slice a n c])::ts)/\w.grownBy wq (some g)) (λo _=>lenV o);case atStart=>exact ab
  case round=>clear ab;obtain⟨J,I,H,rfl,hS,y⟩:=hrel;have aB:=hS.cap (k:=6);obtain⟨l,a',c',hv,ac,ag,au,hts⟩:=hS.arms BZ (.head _);cases hv;have V:=LV (YI l _ wr ac BS ag);obtain⟨S,aa⟩:∃S,S=Au l:=⟨_,rfl⟩;rw[<-aa]at V hts;clear ac ag aa;by_cases aA:l.length=0;{have T:decide (0<(l.length:Int))=false:=(by rw[HZ];omega);go_wp2;go_ret;exact⟨_,_,_,rfl,hS.mono BS,y⟩};have aF:0<(l.length:Int):=(by omega);have aG:(0:Int)<=(l.length:Int) - 1:=BS;have ar:(l.length:Int) - 1<=H:=BS;have aH:((l.length:Int) - 1).toNat=l.length - 1:=BS;by_cases aD:400<S;{have aj:(400:Int)<S:=(by omega);go_wp2_with(go_at_call 46;refine V.mono ?_;rintro e w5⟨rfl,G⟩);refine⟨⟨_,l.length - 1,_,rfl,(hS.bel G).cut (k:=6) BS,Eu y (grown_below G _)⟩,?_⟩;show l.length - 1<l.length;omega};have aj:¬(400:Int)<S:=(by omega);go_wp2_with(go_at_call 46;refine V.mono ?_;rintro e w5⟨rfl,G⟩);go_ret;exact⟨_,_,_,rfl,(hS.bel G).mono BS,Eu y (grown_below G _)⟩
def LP(w:AU)(p g P k n:Nat)(forks:Int):Prop:=∃(bits:Int)(ba fr:Bool),En w p g P k n bits forks ba fr/\0<=bits/\bits<=16
def PT(w:AU)(p g P k n:Nat):Prop:=∃ba fr:Bool,En w p g P k n 0 0 ba fr
def PU.f{w:AU}{bits forks:Int}(h:PU w p g P k n (if 1<bits then 1 else bits) forks)(h0:0<=bits)(h1:bits<=16):LP w p g P k n forks:=by obtain⟨ba,h⟩:=h;exact⟨_,_,_,h,by split<;>omega,by split<;>omega⟩
def LP.later{w:AU}{forks:Int}(h:LP w p g P k n forks)(h1:P<=P')(e:k'<=k)(f:n<=n'):LP w p g P' k' n' forks:=by obtain⟨a,b,c,h,d⟩:=h;exact⟨a,b,c,h.later h1 e f,d⟩
def LO.later{w:AU}(h:LO w p g P k n)(h1:P<=P')(f:k'<=k)(j:n<=n'):LO w p g P' k' n':=by obtain⟨a,b,c,d,h,e⟩:=h;exact⟨a,b,c,d,h.later h1 f j,e⟩
theorem UE(N:Nat)(hN:N<=40)(p g P k n:Nat)(bits forks:Int)(ba fr:Bool)(w:AU)(h:En w p g P k n bits forks ba fr)(t:0<=forks)(J:forks<=8)(hP:P<=8000000)(hn:n<=77000):
  Calls prog 39 #[AH p,AB (N:Int)] w λe w'=>(∃v,e=.returned v)/\PT w' p g (P+55000) (k+1) (n+1200)/\Below g w w':=by
 have X:=BX h;have y:=h.1;have ap:=Jb h.rd;have⟨a,c,m,ak,⟨x0,x1,x2,x3,x4,x5⟩,f0,f1,f2,f3,f4,f5⟩:=h.box;clear h;go_enter func39,ntmps39;go_wp2_with(go_at_call 70;refine(P7 _ BS p g _ _ _ _ _ _ _ _ (X.base false) BS BS).mo ?_;rintro e w2⟨⟨v2,rfl⟩,F,V⟩;have ae:=F.later (DK _) (DK _) (DK _);have⟨a2,c2,m2,dK,⟨O,M,z2,S,U,z5⟩,T,j1,j2,j3,j4,j5⟩:=F.box;have Z:=BX (((BP _ _).s (EL y) _).tr V));go_loopw [4] (λi wr=>∃j:Nat,j<=N/\i=AB (j:Int)/\LO wr p g (P+50+1100*j) (k+1) (n+1+25*j)/\Below g w wr) (λi _=>N - (intOf i).toNat);case atStart=>exact⟨0,BS,rfl,⟨1,forks,_,_,(ae.bits 1).later BS BS BS,BS,BS,BS,BS⟩,(Z.out).s (EL y) _⟩
 case round=>
  clear X ae Z F V O M z2 S U z5 T j1 j2 j3 j4 j5 x0 x1 x2 x3 x4 x5 f0 f1 f2 f3 f4 f5 t J;obtain⟨j,hj,rfl,⟨b,f,ai,af,R,G,D,t,J⟩,Y⟩:=hrel;have C:=BX R;have I:=BX Y;clear R Y;by_cases aj:j<N
  .go_wp2_with (go_at_call 71;refine(oZ p g _ _ _ _ _ _ _ _ C G D t J BS BS).mo ?_;rintro e w3⟨⟨v3,rfl⟩,A,o⟩;have x:=BX ((I.out).tr o));go_roundw;case rel=>exact⟨j+1,BS,BU,A.later BS BS BS,x.out⟩
   case measure=>simp[intOf];omega
  obtain rfl:j=N:=by omega
  go_wp2_with(go_at_call 72;refine(SD p g _ _ _ _ _ _ _ _ C G D BS BS).mo ?_;rintro e w3⟨⟨v3,rfl⟩,A,o⟩;have jW:=A.f G D;have x:=BX ((I.out).tr o));clear C I o A;go_loopg [] 8 (λm wr=>∃(f:Int)(i:Nat),LP wr p g (P+50+44000+1000+1050*i) (k+1) (n+1+1000+20+21*i) f/\0<=f/\f.toNat<=m/\f+i<=8/\Below g w wr);case atStart=>exact⟨f,0,jW.later BS BS BS,t,BS,BS,x.out⟩
  case round=>
   obtain⟨q,i,⟨b4,an,au,z,aa,ac⟩,ao,ar,aw,Q⟩:=hrel;clear jW x;have al:=Jb z.rd;have ab:=z.later (DK _) (DK _) (DK _);have ad:=BX Q;have⟨a4,c4,m4,o8,⟨O,M,z2,S,U,z5⟩,T,j1,j2,j3,j4,j5⟩:=z.box;have av:IntKind.i64.wrap (q - 1)=q - 1:=xAe;clear z Q;by_cases hq:0<q
   .go_wp2_with (first|(go_at_call 70;refine(P7 _ BS p g _ _ _ _ _ _ _ _ ab BS BS).mo ?_;rintro e E⟨⟨v5,rfl⟩,l,H⟩;have B:=l.later (DK _) (DK _) (DK _);have⟨a5,c5,m5,o7,⟨u0,u1,u2,u3,u4,u5⟩,i0,i1,i2,i3,i4,i5⟩:=l.box;have K:=BX ((ad.out).tr H))|(go_at_call 72;refine(SD p g _ _ _ _ _ _ _ _ (B.forks (q - 1)) aa ac BS BS).mo ?_;rintro e w6⟨⟨v6,rfl⟩,o9,ag⟩;have ah:=o9.f aa ac;have zU:=BX (((K.out).s (EL y) _).tr ag)));go_roundg (q - 1).toNat
    rotate_left
    {omega};exact⟨q - 1,i+1,ah.later BS BS BS,BS,BS,BS,zU.out⟩
   (obtain rfl:q=0:=by omega);go_wp2_with(go_at_call 70;refine(P7 _ BS p g _ _ _ _ _ _ _ _ ab BS BS).mo ?_;rintro e E⟨⟨v5,rfl⟩,l,H⟩;have B:=l.later (DK _) (DK _) (DK _);have⟨a5,c5,m5,o7,⟨u0,u1,u2,u3,u4,u5⟩,i0,i1,i2,i3,i4,i5⟩:=l.box;have K:=BX ((ad.out).tr H));go_end0;exact⟨⟨_,rfl⟩,⟨_,_,(B.bits 0).later BS BS BS⟩,(K.out).s (EL y) _⟩
def etG:prog.globalNamed "errors.errorType" =some 0:=BW
def Baf:(prog.cutTypes.find? (·.1== "internal/reflectlite.rtype")).map (·.2)=some 194:=BW
def pP:((List.range prog.types.size).filter λt=>prog.rowNamed t [101,114,114,111,114])=[39]:=BW
theorem xE{W:AU}(h:handlesMet prog [("errors.errorType",DataW.iface "internal/reflectlite.rtype" (.agg [.ptr (.lit (.string [101,114,114,111,114]))]))] W):Es W:=by have⟨name,u,j,o,y,l,z,f⟩:=h _ (BB.2 rfl);have m:=(Ek o).symm;subst m;obtain rfl:=Ek (Baf.symm.tr y);have e:j∈(List.range prog.types.size).filter λt=>prog.rowNamed t [101,114,114,111,114]:=List.mem_filter.2 ⟨List.mem_range.2 l,z⟩;rw[pP]at e;obtain rfl:=BB.1 e;have x:typeHandle prog 39=.pointer (some (AK 4 39)):=BW;rw[x]at f;have A:=World.var?_cell etG f 0;unfold Es;simpa using A
end
def En.list{w:AU}{p g P k n:Nat}{bits forks:Int}{ba fr:Bool}(h:En w p g P k n bits forks ba fr):∃(l:List Stil.Aw)(a:Option Ab)(c:Nat),NF w p g (AE a l.length c) bits forks ba fr/\(Sv w (upTo g) [([sl (Cc l)],[AE a l.length c])]/\l.length<=c)/\(∀i∈l,Rf i/\i.O.args.length<=3)/\k<=l.length/\l.length<=n:=by obtain⟨x,v,b,c⟩:=h;obtain⟨l,a,m,rfl,f,o,j,t⟩:=c.ice (λb e=>by rcases BD.1 e with rfl|e;omega;have:=Jp.1 e;omega);exact⟨l,a,m,PB6.box b,⟨f.sub (λ_ h=>.tail _ h) (λ_ h=>h),t⟩,o,j⟩
def g6{w:AU}{g P:Nat}(h:Ku w g P):En (w.alloc (.cells #[AH g,AG,AB 0,AB 0,.bool false,.bool false] 84)) w.heap.size g P 0 0 0 0 false false:=by have e:=Jb h;refine⟨e,AG,B6.new _ _ _ _ _ _ _ _,[],[],BJ _ _ _ _,Sv.nil (Sv.box (bs:=upTo g) (ts:=[]) ⟨PL e,λx f=>by cases f⟩ _),(λ_ h=>by cases h),⟨DK _,DK _⟩,Qo h (grown_below (Aa _ _) none) BU⟩
def ZL(g P:Nat)(w:AU)(hr:Ku w g P)(hP:P<=4000000):
  Calls prog 13 #[AH g] w λe w'=>KX 3 e w w' g (P+3600000) 76000:=by
 have ak:=Jb hr;have vk:Hid (En (w.alloc (.cells #[AH g,AG,AB 0,AB 0,.bool false,.bool false] 84)) w.heap.size g P 0 0 0 0 false false):=g6 hr;have ac:Hid (Below g w (w.alloc (.cells #[AH g,AG,AB 0,AB 0,.bool false,.bool false] 84))):=(Aa _ _).mono (EL ak);clear hr;go_enter func13,ntmps13;go_upto_if 10 with(go_at_call 10;refine(Ew g _ _ _ vk.rd BS BS BS).mono ?_;rintro e w1⟨x,rfl,ar,ax,aN,aG⟩;have D:Hid (En w1 w.heap.size g (P+1) 0 0 0 0 false false):=vk.grown aG aN;have K:Hid (Below g w w1):=Ua ac aG (λq hq=>C3) BS);have⟨p,hp⟩:=AA w.heap.size;rw[<-hp]at D⊢;have dG:g<p:=BS;clear hp;clear vk ac aN aG;have⟨B,a1,c1,G,o,C,Z,T⟩:=D.list;obtain⟨sG,⟨Q,y1,y2,y3,J,X⟩,O,V,g2,Y,M,S⟩:=G;by_cases hx:x=0
 .subst hx;go_wp2;go_ret;exact⟨B,_,_,rfl,o.1,C,BS,o.2,Il D.rd BS,K.out⟩
 go_wp2_with (go_at_call 10;refine(Ew g _ _ _ D.rd BS BS BS).mono ?_;rintro e w2⟨ao,rfl,al,av,dJ,R⟩;have ag:Hid (En w2 p g (P+1+1) 0 0 0 0 false false):=D.grown R dJ;have ae:Hid (Below g w w2):=Ua K R (λq hq=>C3) BS);have⟨af,aj⟩:=G4 al;subst aj;clear D K Q y1 y2 y3 J X O V g2 Y M S o C Z T dJ R;go_loopw [4] (λi wr=>∃j r:Nat,j+r=1+af/\i=AB (j:Int)/\PT wr p g (P+2+55001*r) r (1200*r)/\Below g w wr) (λi _=>(intOf i).toNat);case atStart=>exact⟨1+af,0,BS,by go_num,⟨_,_,ag.later BS BS BS⟩,ae.out⟩
 case round=>
  clear ag ae;obtain⟨j,r,ay,rfl,⟨ba,fr,t⟩,H⟩:=hrel;have f:Hid (En wr p g (P+2+55001*r) r (1200*r) 0 0 ba fr):=t;have F:Hid (Below g w wr):=H;have qg:=Jb t.rd;clear t H;by_cases ah:0<j
  .go_wp2_with (first|(go_at_call 10;refine(Ew g _ _ _ f.rd BS BS BS).mono ?_;rintro e w3⟨z,rfl,I,ad,E,l⟩;have y:Hid (En w3 p g (P+2+55001*r+1) r (1200*r) 0 0 ba fr):=f.grown l E;have A:Hid (Below g w w3):=Ua F l (λq hq=>C3) BS;have⟨ab,qw⟩:=G4 I;subst qw)|(go_at_call 39;refine(UE ab BS p g _ _ _ _ _ _ _ _ y BS BS BS BS).mono ?_;rintro e w4⟨⟨v4,rfl⟩,⟨ai,an,U⟩,N⟩;have aa:Hid (Below g w w4):=(A.out).trans N));go_roundw;case rel=>exact⟨j - 1,r+1,BS,by go_num,⟨_,_,U.later BS BS BS⟩,aa.out⟩
   case measure=>simp[intOf];omega
  have ap:¬(0:Int)<j:=by omega
  go_upto_if 28 with(go_at_call 10;refine(Ew g _ _ _ f.rd BS BS BS).mono ?_;rintro e w3⟨z,rfl,I,ad,E,l⟩;have y:Hid (En w3 p g (P+2+55001*r+1) r (1200*r) 0 0 ba fr):=f.grown l E;have A:Hid (Below g w w3):=Ua F l (λq hq=>C3) BS);clear f F E l;by_cases hz:z=0
  .subst hz;go_wp2;go_loopg [] 60 (λm wr=>∃r:Nat,PT wr p g (P+170000+55001*r) r (3600+1200*r)/\r<=60/\60 - r<=m/\Below g w wr);case atStart=>exact⟨0,⟨_,_,y.later BS BS BS⟩,BS,BS,A.out⟩
   case round=>
    clear y A;obtain⟨r,⟨ba,fr,t⟩,aw,au,H⟩:=hrel;have f:Hid (En wr p g (P+170000+55001*r) r (3600+1200*r) 0 0 ba fr):=t;have F:Hid (Below g w wr):=H;have qg:=Jb t.rd;have⟨B,a1,c1,G,o,C,Z,T⟩:=t.list;obtain⟨sG,⟨Q,y1,y2,y3,J,X⟩,O,V,g2,Y,M,S⟩:=G;clear t H;by_cases ah:B.length<60
    .go_wp2_with (first|(go_at_call 10;refine(Ew g _ _ _ f.rd BS BS BS).mono ?_;rintro e w3⟨z,rfl,I,ad,E,l⟩;have y:Hid (En w3 p g (P+170000+55001*r+1) r (3600+1200*r) 0 0 ba fr):=f.grown l E;have A:Hid (Below g w w3):=Ua F l (λq hq=>C3) BS;have⟨ab,qw⟩:=G4 I;subst qw)|(go_at_call 39;refine(UE ab BS p g _ _ _ _ _ _ _ _ y BS BS BS BS).mono ?_;rintro e w4⟨⟨v4,rfl⟩,⟨ai,an,U⟩,N⟩;have aa:Hid (Below g w w4):=(A.out).trans N));go_roundg (60 - (r+1))
     rotate_left
     {omega};exact⟨r+1,⟨_,_,U.later BS BS BS⟩,BS,BS,aa.out⟩
    go_wp2;go_ret;exact⟨B,_,_,rfl,o.1,C,BS,o.2,Il f.rd BS,F.out⟩
  have⟨B,a1,c1,G,o,C,Z,T⟩:=y.list;obtain⟨sG,⟨Q,y1,y2,y3,J,X⟩,O,V,g2,Y,M,S⟩:=G;go_wp2;go_ret;exact⟨B,_,_,rfl,o.1,C,BS,o.2,Il y.rd BS,A.out⟩
