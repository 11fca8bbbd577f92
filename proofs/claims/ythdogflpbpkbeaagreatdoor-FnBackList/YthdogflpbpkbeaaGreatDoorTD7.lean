import Derived.Test.YthdogflpbpkbeaaGreatDoorZ9
set_option linter.defProp false
set_option maxHeartbeats 4000000
set_option maxRecDepth 100000
namespace Go.Proofs.YthdogflpbpkbeaaGreatDoor
open Tryz Go.RowKit Go.Sort Go.BigFrame
section
open Stil
def OY(w:AU)(p g:Nat)(v:AW)(bits forks:Int)(ba fr:Bool):Prop:=p<w.heap.size/\(w.cell? (AK p 0)=some (AH g)/\w.cell? (AK p 1)=some v/\w.cell? (AK p 2)=some (AB bits)/\w.cell? (AK p 3)=some (AB forks)/\w.cell? (AK p 4)=some (.bool ba)/\w.cell? (AK p 5)=some (.bool fr))/\w.frozen? (AK p 0)=false/\w.frozen? (AK p 1)=false/\w.frozen? (AK p 2)=false/\w.frozen? (AK p 3)=false/\w.frozen? (AK p 4)=false/\w.frozen? (AK p 5)=false
def PB6(w:AU)(p g:Nat)(v:AW)(bits forks:Int)(ba fr:Bool):Prop:=B6 w p (AH g) v (AB bits) (AB forks) (.bool ba) (.bool fr)
def PB6.box{w:AU}{p g:Nat}{v:AW}{bits forks:Int}{ba fr:Bool}(h:PB6 w p g v bits forks ba fr):OY w p g v bits forks ba fr:=⟨h.1,h.2.1,h.2.2 0 BS,h.2.2 1 BS,h.2.2 2 BS,h.2.2 3 BS,h.2.2 4 BS,h.2.2 5 BS⟩
def Eu(w:AU)(p g P k n:Nat)(bits forks:Int)(ba fr:Bool):Prop:=g<p/\∃v,PB6 w p g v bits forks ba fr/\GR 3 g P n k (p+1) (p::upTo g) w v []
section
variable {w w':AU}{p g P P' k k' n n':Nat}{bt fk:Int}{ba fr:Bool}
def Eu.rd(h:Eu w p g P k n bt fk ba fr):Kw w g P:=let ⟨_,_,_,h⟩:=h;h.rd
def Eu.later(h:Eu w p g P k n bt fk ba fr)(h1:P<=P')(d:k'<=k)(e:n<=n'):Eu w p g P' k' n' bt fk ba fr:=let ⟨a,v,b,c⟩:=h;⟨a,v,b,c.later h1 e d⟩
def Eu.grown(h:Eu w p g P k n bt fk ba fr)(hg:w.grownBy w' (some g))(hr:Kw w' g P'):Eu w' p g P' k n bt fk ba fr:=let ⟨a,v,b,c⟩:=h;⟨a,v,B6.grown b hg (λe=>by injection e with e;omega),c.grown BS (Ax TM) hg hr⟩
def Eu.bits(h:Eu w p g P k n bt fk ba fr)(u:Int):Eu (w.setCell (AK p 2) (AB u)) p g P k n u fk ba fr:=let ⟨a,v,b,c⟩:=h;⟨a,v,B6.set2 b _,c.set Av BS a⟩
def Eu.forks(h:Eu w p g P k n bt fk ba fr)(u:Int):Eu (w.setCell (AK p 3) (AB u)) p g P k n bt u ba fr:=let ⟨a,v,b,c⟩:=h;⟨a,v,B6.set3 b _,c.set Av BS a⟩
def Eu.base(h:Eu w p g P k n bt fk ba fr)(u:Bool):Eu (w.setCell (AK p 4) (.bool u)) p g P k n bt fk u fr:=let ⟨a,v,b,c⟩:=h;⟨a,v,B6.set4 b _,c.set Av BS a⟩
theorem Eu.box(h:Eu w p g P k n bt fk ba fr):∃a c,∃m:Nat,OY w p g (AE a m c) bt fk ba fr:=by obtain⟨a,v,b,c⟩:=h;obtain⟨e,d,m,rfl⟩:=c.form;exact⟨e,d,m,PB6.box b⟩
end
variable {P P' g k k' n n' p:Nat}{ba fr:Bool}{r:ε}
def Ue{w a b:AU}(h:Below g w a)(k:a.grownBy b r)(hr:∀j,r=some j->g<=j)(d:g<=w.heap.size):Below g w b:=by have c:Below g a b:=⟨k.os,k.tape,k.output,k.size,λi hi=>k.block i (by have:=h.size;omega) (λe=>by have:=hr i e.symm;omega)⟩;exact h.tr c
def RV{w w':AU}(h:w.drew.grownBy w' r):w.grownBy w' r:=⟨h.os,h.tape,h.output,h.size,h.block⟩
theorem Eu.put{w f b:AU}{bits forks:Int}{v d:AW}{m:Ao}(a:g<p)(o:PB6 f p g v bits forks ba fr)(i:∀c,v.ownBlock=some c->p+1<=c)(h:GR 3 g P (n+1) (k+1) (p+1) (p::upTo g) b d m/\f.grownBy b v.ownBlock)(s:Below g w f)(hg:g<=w.heap.size)(F:Bool):
  Eu ((b.setCell (AK p 1) d).setCell (AK p 5) (.bool F)) p g P (k+1) (n+1) bits forks ba F/\Below g w ((b.setCell (AK p 1) d).setCell (AK p 5) (.bool F)):=
 ⟨⟨a,d,B6.set5 (B6.set1 (B6.grown o h.2 (λe=>by have:=i _ e;omega)) _) _,((h.1.sub (λx l=>by cases l)).set Av BS a).set Av BS a⟩,((Ue s h.2 (λj q=>by have:=i j q;omega) hg).s (EO a) _).s (EO a) _⟩
theorem Qa(code:Int)(hc:1<=code/\code<=11)(p g P k n:Nat)(bits forks:Int)(ba fr:Bool)(w:AU)(h:Eu w p g P k n bits forks ba fr)(hP:P<=10000000)(hn:n<=90000):
  Calls prog 94 #[.pointer (some ⟨p,0,none⟩),.int .i64 code] w λe w'=>(∃v,e=.returned v)/\Eu w' p g (P+50) (k+1) (n+1) bits forks (ba || code==10 || code==7) (code==10)/\Below g w w':=by
 obtain⟨U,v,ae,R⟩:=h;have ak:=R.rd;have ac:=Je ak;have ap:=λc hc=>(R.lo c hc).1;have aj:=λc hc=>(R.lo c hc).2;have zT:=Af (λW(h:w.grownBy W (some g))=>(show PB6 W p g v bits forks ba fr from B6.grown ae h (by simp only[ne_eq,FC];omega)));have wI:=Af (λW P'(h:w.grownBy W (some g))(hr:Kw W g P')=>R.grown BS (Ax TM) h hr);obtain⟨a,c,m,rfl⟩:=R.form;have Q:=Af ap;have ku:=Af aj;have⟨aB,⟨C,I,J,u,z,D⟩,H,B,E,G,x,F⟩:=ae.box;clear R ae ap aj;by_cases h3:code<=3
 .have aw:(code==10)=false:=by rw[DX];omega
  have ax:(code==7)=false:=by rw[DX];omega
  go_enter func94,ntmps94;go_upto_region 5 with(go_at_call 42;refine(Hz g _ _ B7 BS).mono ?_;rintro e l⟨op,av,d,rfl,K,ab,ai,af,aS,j⟩;have az:w.heap.size<l.heap.size:=(by have:=j.size;simp at this;omega);have bT:=E5 (Px (Le _ _) _) j;have⟨ah,⟨C,I,J,u,z,D⟩,H,B,E,G,x,F⟩:=(zT l bT).box;have ag:l.cell? ⟨w.heap.size,0,none⟩=some (.int .i64 code)/\l.cell? ⟨w.heap.size,1,none⟩=some (.int .i64 0)/\l.cell? ⟨w.heap.size,2,none⟩=some (.slice none 0 0)/\l.frozen? ⟨w.heap.size,1,none⟩=false/\l.frozen? ⟨w.heap.size,2,none⟩=false:=(by refine⟨(Fb j BU BS).trans (by simp[go_sem]),(Fb j BU BS).trans (by simp[go_sem]),(Fb j BU BS).trans (by simp[go_sem]),(Fj j BU BS).trans (by simp[go_sem]),(Fj j BU BS).trans (by simp[go_sem])⟩);obtain⟨z0,z1,X,ng,mr⟩:=ag;have aa:=Lj ab;obtain⟨o,q,rfl,-⟩:=ab);obtain⟨wq,f⟩:∃wq,wq=(l.setCell ⟨w.heap.size,1,none⟩ (.int .i64 op)).setCell ⟨w.heap.size,2,none⟩ (.slice o d.length q):=⟨_,rfl⟩;have s:w.grownBy wq (some g):=by rw[f];exact B0
  have Y:Jk (λb=>w.heap.size<b) wq (.slice o d.length q) d:=by rw[f];exact(aa.mono (λb _ V=>by simp at V;omega)).keep ((Gw.set BS _).trans (Gw.set BS _))
  have N:Kw wq g (P+50):=by rw[f];exact Iw (KW (KW aS BS _) BS _) BS
  have T:=Af ((wI wq _ s N).dev (i:=⟨code,⟨op,d⟩⟩) Y (λb V A=>by
   rcases BI.1 A with A|A
   .have:=ku b (Kx.1 A);omega
   .rcases BD.1 A with h | h;omega;have:=Jt.1 h;omega))
  have zQ:Hid (Rk ⟨code,⟨op,d⟩⟩/\d.length<=3):=⟨⟨by simp only;omega,K,ai,by simp only;omega⟩,af⟩;obtain⟨y0,y1,y2⟩:wq.cell? ⟨w.heap.size,0,none⟩=some (.int .i64 code)/\wq.cell? ⟨w.heap.size,1,none⟩=some (.int .i64 op)/\wq.cell? ⟨w.heap.size,2,none⟩=some (.slice o d.length q):=by rw[f];exact⟨(Cj BS).trans ((Cj BS).trans z0),(Cj BS).trans (Du z1),Du ((Cj BS).trans X)⟩
  have au:w.heap.size<wq.heap.size:=by rw[f];simp;omega
  rw[<-f];clear f aS j bT z0 z1 X ng mr Y N aa ah;have t:=Af (zT wq s);have S:Hid (Below g w wq):=Ue (BP _ _) s (λal Z=>by simp only[FC]at Z;omega) BS;clear C I J u z D H B E G x F s;have⟨an,⟨C,I,J,u,z,D⟩,H,B,E,G,x,F⟩:=t.box;go_region_law(first|(go_loud (refine Gj rfl rfl (GR.put (m:=1) _ (es:=[⟨code,⟨op,d⟩⟩]) (cs:=[.int .i64 code,.int .i64 op,.slice o d.length q]) T.drew BS yFh Av yCa BS rfl) rfl rfl ?_;rintro v6 w6⟨y,M⟩;obtain⟨a6,c6,m6,rfl⟩:=y.form;have L:=Af (And.intro y (RV M));clear y M;obtain⟨-,⟨C,I,J,u,z,D⟩,H,B,E,G,x,F⟩:=PB6.box (B6.grown t L.2 (λe=>(by have:=Q _ e;omega))))));all_goals go_wp2;go_end0;exact⟨⟨_,rfl⟩,Eu.put U t Q L S (EO ac) false⟩
 by_cases ay:code=10
 .subst ay;go_enter func94,ntmps94;go_upto_region 5 with(go_at_call 43;refine(Qp g _ _ B7 BS).mono ?_;rintro e l⟨op,av,d,rfl,K,ab,ai,af,aS,j⟩;have az:w.heap.size<l.heap.size:=(by have:=j.size;simp at this;omega);have bT:=E5 (Px (Le _ _) _) j;have⟨ah,⟨C,I,J,u,z,D⟩,H,B,E,G,x,F⟩:=(zT l bT).box;have ag:l.cell? ⟨w.heap.size,0,none⟩=some (.int .i64 10)/\l.cell? ⟨w.heap.size,1,none⟩=some (.int .i64 0)/\l.cell? ⟨w.heap.size,2,none⟩=some (.slice none 0 0)/\l.frozen? ⟨w.heap.size,1,none⟩=false/\l.frozen? ⟨w.heap.size,2,none⟩=false:=(by refine⟨(Fb j BU BS).trans (by simp[go_sem]),(Fb j BU BS).trans (by simp[go_sem]),(Fb j BU BS).trans (by simp[go_sem]),(Fj j BU BS).trans (by simp[go_sem]),(Fj j BU BS).trans (by simp[go_sem])⟩);obtain⟨z0,z1,X,ng,mr⟩:=ag;have aa:=Lj ab;obtain⟨o,q,rfl,-⟩:=ab);obtain⟨wq,f⟩:∃wq,wq=(l.setCell ⟨w.heap.size,1,none⟩ (.int .i64 op)).setCell ⟨w.heap.size,2,none⟩ (.slice o d.length q):=⟨_,rfl⟩;have s:w.grownBy wq (some g):=by rw[f];exact B0
  have Y:Jk (λb=>w.heap.size<b) wq (.slice o d.length q) d:=by rw[f];exact(aa.mono (λb _ V=>by simp at V;omega)).keep ((Gw.set BS _).trans (Gw.set BS _))
  have N:Kw wq g (P+50):=by rw[f];exact Iw (KW (KW aS BS _) BS _) BS
  have T:=Af ((wI wq _ s N).dev (i:=⟨10,⟨op,d⟩⟩) Y (λb V A=>by
   rcases BI.1 A with A|A
   .have:=ku b (Kx.1 A);omega
   .rcases BD.1 A with h | h;omega;have:=Jt.1 h;omega))
  have zQ:Hid (Rk ⟨10,⟨op,d⟩⟩/\d.length<=3):=⟨⟨by simp only;omega,K,ai,by simp only;omega⟩,af⟩;obtain⟨y0,y1,y2⟩:wq.cell? ⟨w.heap.size,0,none⟩=some (.int .i64 10)/\wq.cell? ⟨w.heap.size,1,none⟩=some (.int .i64 op)/\wq.cell? ⟨w.heap.size,2,none⟩=some (.slice o d.length q):=by rw[f];exact⟨(Cj BS).trans ((Cj BS).trans z0),(Cj BS).trans (Du z1),Du ((Cj BS).trans X)⟩
  have au:w.heap.size<wq.heap.size:=by rw[f];simp;omega
  rw[<-f];clear f aS j bT z0 z1 X ng mr Y N aa ah;have t:=Af (zT wq s);have S:Hid (Below g w wq):=Ue (BP _ _) s (λal Z=>by simp only[FC]at Z;omega) BS;clear C I J u z D H B E G x F s;have⟨an,⟨C,I,J,u,z,D⟩,H,B,E,G,x,F⟩:=t.box;go_region_law(first|(go_loud (refine Gj rfl rfl (GR.put (m:=1) _ (es:=[⟨10,⟨op,d⟩⟩]) (cs:=[.int .i64 10,.int .i64 op,.slice o d.length q]) T.drew BS yFh Av yCa BS rfl) rfl rfl ?_;rintro v6 w6⟨y,M⟩;obtain⟨a6,c6,m6,rfl⟩:=y.form;have L:=Af (And.intro y (RV M));clear y M;obtain⟨-,⟨C,I,J,u,z,D⟩,H,B,E,G,x,F⟩:=PB6.box (B6.grown t L.2 (λe=>(by have:=Q _ e;omega))))));all_goals go_wp2;go_end0;have O:=Eu.put U t Q L S (EO ac) true;exact⟨⟨_,rfl⟩,by simpa using O.1.base true,O.2.setCell (EO U) _⟩
 have aA:¬code<4:=by omega
 have aw:(code==10)=false:=by rw[DX];omega
 go_enter func94,ntmps94;go_upto_region 5 with fail;obtain⟨wq,f⟩:∃wq,wq=w.alloc (.cells #[.int .i64 code,.int .i64 0,.slice none 0 0] 73):=⟨_,rfl⟩;have s:w.grownBy wq (some g):=by rw[f];exact B0
 have N:Kw wq g (P+50):=by rw[f];exact Iw (Gl ak _) BS
 obtain⟨op,K⟩:∃op:Int,op=0:=⟨_,rfl⟩;obtain⟨d,ad⟩:∃d:Ψ,d=[]:=⟨_,rfl⟩;obtain⟨o,ao⟩:∃o:Δ,o=none:=⟨_,rfl⟩;obtain⟨q,ar⟩:∃q:Nat,q=0:=⟨_,rfl⟩;have T:=Af ((wI wq _ s N).code code);have zQ:Hid (Rk ⟨code,⟨op,d⟩⟩/\d.length<=3):=by rw[K,ad];exact Qy BS
 have O:Gh code=⟨code,⟨op,d⟩⟩:=by rw[K,ad];rfl
 have hF:(Value.slice none 0 0)=.slice o d.length q:=by rw[ad,ao,ar];rfl
 rw[O,hF,<-K]at T;obtain⟨y0,y1,y2⟩:wq.cell? ⟨w.heap.size,0,none⟩=some (.int .i64 code)/\wq.cell? ⟨w.heap.size,1,none⟩=some (.int .i64 op)/\wq.cell? ⟨w.heap.size,2,none⟩=some (.slice o d.length q):=by rw[f,<-hF,K];exact⟨by simp[go_sem],by simp[go_sem],by simp[go_sem]⟩
 have au:w.heap.size<wq.heap.size:=by rw[f];simp
 rw[<-f];clear f N O hF ad ao ar K;have t:=Af (zT wq s);have S:Hid (Below g w wq):=Ue (BP _ _) s (λal Z=>by simp only[FC]at Z;omega) BS;clear C I J u z D H B E G x F s;have⟨an,⟨C,I,J,u,z,D⟩,H,B,E,G,x,F⟩:=t.box;go_region_law(first|(go_loud (refine Gj rfl rfl (GR.put (m:=1) _ (es:=[⟨code,⟨op,d⟩⟩]) (cs:=[.int .i64 code,.int .i64 op,.slice o d.length q]) T.drew BS yFh Av yCa BS rfl) rfl rfl ?_;rintro v6 w6⟨y,M⟩;obtain⟨a6,c6,m6,rfl⟩:=y.form;have L:=Af (And.intro y (RV M));clear y M;obtain⟨-,⟨C,I,J,u,z,D⟩,H,B,E,G,x,F⟩:=PB6.box (B6.grown t L.2 (λe=>(by have:=Q _ e;omega))))));all_goals
  by_cases h7:code=7;{subst h7;go_wp2;go_end0;have O:=Eu.put U t Q L S (EO ac) false;exact⟨⟨_,rfl⟩,by simpa using O.1.base true,O.2.setCell (EO U) _⟩};have ax:(code==7)=false:=by rw[DX];omega
  go_wp2;go_end0;exact⟨⟨_,rfl⟩,Eu.put U t Q L S (EO ac) false⟩
def LV(w:AU)(p g P k n:Nat):Prop:=∃(bits forks:Int)(ba fr:Bool),Eu w p g P k n bits forks ba fr/\0<=bits/\bits<=16/\0<=forks/\forks<=8
def PY(w:AU)(p g P k n:Nat)(bits forks:Int):Prop:=∃a,Eu w p g P k n bits forks a true
def zs0{p:Prop}(h:p:=by exact⟨b - 1,_,_,j+1,(HP2.bits (b - 1)).later BS BS BS,BS,BS,BS,BS,DN _,(HB2.out).setCell (EO dJ) _⟩):p:=h
theorem S3(p g P k n:Nat)(bits forks:Int)(ba fr:Bool)(w:AU)(h:Eu w p g P k n bits forks ba fr)(aa:0<=bits)(ad:bits<=16)(hP:P<=9000000)(hn:n<=80000):
  Calls prog 96 #[AH p] w λe w'=>(∃v,e=.returned v)/\PY w' p g (P+1000) k (n+20) (if 1<bits then 1 else bits) forks/\Below g w w':=by
 have X:=BZ h;have dJ:=h.1;clear h;obtain⟨s,F⟩:∃s:Int,s=(if 1<bits then 1 else bits):=⟨_,rfl⟩;rw[<-F];have zo:=BZ F;clear F;go_enter func96,ntmps96;go_wp2;go_loopg [] bits.toNat (λm wr=>∃(b:Int)(A o:Bool)(j:Nat),Eu wr p g (P+60*j) k (n+j) b forks A o/\0<=b/\b+j=bits/\(1<bits\/j=0)/\(j=0\/1<=b)/\b.toNat<=m/\Below g w wr);case atStart=>exact⟨bits,ba,fr,0,X.later BS (DN _) BS,aa,BS,.inr rfl,.inl rfl,DN _,BP _ _⟩
 case round=>
  obtain⟨b,A,o,j,z,hb,ae,hx,hy,hm,u⟩:=hrel;have i:=BZ z;have ac:=Je z.rd;have ag:g<=w.heap.size:=by have:=Je X.rd;omega
  have⟨a,c,m,af,⟨x0,x1,x2,x3,x4,x5⟩,f0,f1,f2,f3,f4,f5⟩:=z.box;have ah:IntKind.i64.wrap (b - 1)=b - 1:=xAe;clear z;by_cases h1:1<b
  .cases A
   .go_wp2_with (first|(go_at_call 15;refine(E8 g _ _ _ i.rd BS BS BS).mo ?_;rintro e y⟨x,rfl,Z,ab,C,t⟩;have B:=BZ (i.grown t C);have D:=BZ (Ue u t (λq hq=>C5) BS))|(go_at_call 94;refine(Qa _ BS p g _ k _ b forks _ _ _ B BS BS).mo ?_;rintro e l⟨⟨E,rfl⟩,d,f⟩;have HP2:=d.later (DN _) (DN _) (DN _);have⟨Q,T,M,H,⟨R,G,U,V,N,I⟩,K,O,L,S,J,W⟩:=d.box;have HB2:=BZ ((D.out).tr f)));all_goals
     go_roundg (b - 1).toNat
     rotate_left
     {omega};exact zs0
   by_cases Y:b=2
   .subst Y;go_wp2_with(go_at_call 94;refine(Qa _ BS p g _ k _ 2 forks _ _ _ i BS BS).mo ?_;rintro e l⟨⟨E,rfl⟩,d,f⟩;have HP2:=d.later (DN _) (DN _) (DN _);have⟨Q,T,M,H,⟨R,G,U,V,N,I⟩,K,O,L,S,J,W⟩:=d.box;have HB2:=BZ ((u).tr f));all_goals
     go_roundg ((2:Int) - 1).toNat
     rotate_left
     {omega};exact⟨(2:Int) - 1,_,_,j+1,(show Eu _ p g _ _ _ ((2:Int) - 1) forks _ _ from HP2.bits 1).later BS BS BS,BS,BS,BS,BS,DN _,(HB2.out).s (EO dJ) _⟩
   go_wp2_with (first|(go_at_call 15;refine(E8 g _ _ _ i.rd BS BS BS).mo ?_;rintro e y⟨x,rfl,Z,ab,C,t⟩;have B:=BZ (i.grown t C);have D:=BZ (Ue u t (λq hq=>C5) BS))|(go_at_call 94;refine(Qa _ BS p g _ k _ b forks _ _ _ B BS BS).mo ?_;rintro e l⟨⟨E,rfl⟩,d,f⟩;have HP2:=d.later (DN _) (DN _) (DN _);have⟨Q,T,M,H,⟨R,G,U,V,N,I⟩,K,O,L,S,J,W⟩:=d.box;have HB2:=BZ ((D.out).tr f)));all_goals
    go_roundg (b - 1).toNat
    rotate_left
    {omega};exact zs0
  .obtain rfl:s=b:=by
    rw[zo.out];split<;>omega
   cases o
   .go_wp2_with (go_at_call 94;refine(Qa _ BS p g _ k _ s forks _ _ _ i BS BS).mo ?_;rintro e l⟨⟨E,rfl⟩,d,f⟩)
    go_end0
    exact⟨⟨_,rfl⟩,⟨_,d.later BS BS BS⟩,u.tr f⟩
   .go_wp2
    go_end0
    exact⟨⟨_,rfl⟩,⟨_,i.later BS BS BS⟩,u⟩
theorem Eu.last{w:AU}{bits forks:Int}(h:Eu w p g P (k+1) n bits forks ba fr):∃(b m c:Nat)(code:Int),OY w p g (AE (some (AK b 0)) (m+1) c) bits forks ba fr/\b<w.heap.size/\w.cell? (AK b (m*3))=some (AB code)/\m+1<=n/\m<c:=by
 obtain⟨G,v,d,l,E,i,j,_,f,_⟩:=h;obtain⟨a,c,rfl,z,y,q⟩:=Y5 i;obtain⟨⟨b,o,sp⟩,rfl⟩:∃x,a=some x:=by cases a with|none=>exact absurd rfl (q BS)|some x=>exact⟨x,rfl⟩
 obtain⟨rfl,rfl,_,_,C,B⟩:=y b o sp rfl;obtain⟨m,s⟩:∃m,l.length=m+1:=⟨l.length - 1,BS⟩;have⟨F,e,A⟩:=Ph.get (k:=3) (j.2 _ Av) (by intro t D;obtain⟨x,_,rfl⟩:=BM.1 D;rfl) m (by rw[Db];omega);rw[Fo]at e;obtain⟨u,rfl,_⟩:=Qo.1 e;have:=z.1;rw[s]at d this f;exact⟨b,m,c,_,PB6.box d,C,B _ _ (A 0 _ rfl),f.2,BS⟩
def zc{p:Prop}(h:p:=by go_wp2_with(go_at_call 94;refine(Qa _ BS p g _ _ _ _ _ _ _ _ dD BS BS).mo ?_;rintro e w2⟨⟨v2,rfl⟩,hpl2,hb2⟩;have HP2:=hpl2.later (DN _) (DN _) (DN _);have⟨a2,c2,m2,dN,⟨z0,z1,z2,z3,z4,z5⟩,j0,j1,j2,j3,j4,j5⟩:=hpl2.box;have HB2:=BZ ((HB1.out).tr hb2));go_end0;exact⟨⟨_,rfl⟩,⟨bits,forks,_,_,HP2.later BS BS BS,BS,BS,BS,BS⟩,HB2.out⟩):p:=h
def ze{p:Prop}(h:p:=by go_wp2;go_end0;exact⟨⟨_,rfl⟩,⟨bits,forks,_,_,dD.later BS BS BS,BS,BS,BS,BS⟩,HB1.out⟩):p:=h
def za0 {p:Prop}(h:p:=by
 by_cases hc:bits<16
 .go_wp2_with (go_at_call 94;refine(Qa _ BS p g _ _ _ _ _ _ _ _ dD BS BS).mo ?_;rintro e w2⟨⟨v2,rfl⟩,hpl2,hb2⟩;have HP2:=hpl2.later (DN _) (DN _) (DN _);have⟨a2,c2,m2,dN,⟨z0,z1,z2,z3,z4,z5⟩,j0,j1,j2,j3,j4,j5⟩:=hpl2.box;have HB2:=BZ ((HB1.out).tr hb2));go_end0;exact⟨⟨_,rfl⟩,⟨bits+1,forks,_,_,(HP2.bits (bits+1)).later BS BS BS,BS,BS,BS,BS⟩,(HB2.out).setCell (EO dJ) _⟩
 exact ze):p:=h
def zb0{p:Prop}(h:p:=by go_wp2_with(go_at_call 94;refine(Qa _ BS p g _ _ _ _ _ _ _ _ dD BS BS).mo ?_;rintro e w2⟨⟨v2,rfl⟩,hpl2,hb2⟩;have HP2:=hpl2.later (DN _) (DN _) (DN _);have⟨a2,c2,m2,dN,⟨z0,z1,z2,z3,z4,z5⟩,j0,j1,j2,j3,j4,j5⟩:=hpl2.box;have HB2:=BZ ((HB1.out).tr hb2));go_end0;exact⟨⟨_,rfl⟩,⟨bits - 1,forks,_,_,(HP2.bits (bits - 1)).later BS BS BS,BS,BS,BS,BS⟩,(HB2.out).setCell (EO dJ) _⟩):p:=h
theorem qk(p g P k n:Nat)(bits forks:Int)(ba fr:Bool)(w:AU)(h:Eu w p g P k n bits forks ba fr)(N:0<=bits)(T:bits<=16)(al:0<=forks)(ax:forks<=8)(hP:P<=8900000)(hn:n<=79000):
  Calls prog 95 #[AH p] w λe w'=>(∃v,e=.returned v)/\LV w' p g (P+1100) k (n+25)/\Below g w w':=by
 have z:Hid (Eu w p g P k n bits forks ba fr):=h;have dJ:=h.1;have ap:=Je h.rd;have⟨a,c,m,au,⟨W,x1,x2,J,R,X⟩,f0,U,Y,f3,Q,Z⟩:=h.box;clear h;have an:IntKind.i64.wrap (bits+1)=bits+1:=xAe;have ao:IntKind.i64.wrap (bits - 1)=bits - 1:=xAe;have t:IntKind.i64.wrap (forks+1)=forks+1:=xAe;have av:IntKind.i64.wrap (forks - 1)=forks - 1:=xAe;go_enter func95,ntmps95;go_upto_if 6 with fail;go_cut [2] (λs wc=>∃low:Int,s=AB low/\1<=low/\low<=2/\w=wc);case first=>cases ba;{go_wp2;go_meet;exact⟨1,rfl,BS,BS,rfl⟩};go_wp2;go_meet;exact⟨2,rfl,BS,BS,rfl⟩
 case rest=>obtain⟨low,rfl,ai,aj,rfl⟩:=hcut;go_upto_region 9 with(go_at_call 15;refine(E8 g _ _ _ z.rd BS BS BS).mo ?_;rintro e I⟨x,rfl,o,C,A,u⟩;have dD:Hid (Eu I p g (P+1) k n bits forks ba fr):=z.grown u A;have HB1:Hid (Below g w I):=Ue (BP _ _) u (λq hq=>C5) BS;have ah:=Je A;have⟨a1,c1,m1,sQ,⟨y0,y1,y2,y3,y4,y5⟩,g0,g1,g2,g3,g4,g5⟩:=dD.box);clear z W x1 x2 J R X f0 U Y f3 Q Z u A;have ac:x=0\/x=1\/x=2\/x=3\/x=4\/x=5\/x=6\/x=7\/x=8\/x=9\/x=10:=BS;clear o C;rcases ac with rfl|rfl|rfl|rfl|rfl|rfl|rfl|rfl|rfl|rfl|rfl;{exact za0};{exact za0};{exact zc};{exact zc};{by_cases hc:low<=bits;{exact zc};exact ze};{by_cases hc:low<=bits;{go_wp2_with (first|(go_at_call 15;refine(E8 g _ _ _ dD.rd BS BS BS).mo ?_;rintro e d⟨x,rfl,o,C,B,b⟩;have j:Hid (Eu d p g (P+1+1) k n bits forks ba fr):=dD.grown b B;have f:Hid (Below g w d):=Ue HB1 b (λq hq=>C5) BS)|(go_at_call 94;refine(Qa _ BS p g _ _ _ _ _ _ _ _ j BS BS).mo ?_;rintro e w2⟨⟨v2,rfl⟩,hpl2,hb2⟩;have HP2:=hpl2.later (DN _) (DN _) (DN _);have⟨a2,c2,m2,dN,⟨z0,z1,z2,z3,z4,z5⟩,j0,j1,j2,j3,j4,j5⟩:=hpl2.box;have HB2:Hid (Below g w w2):=(f.out).tr hb2));{go_end0;exact⟨⟨_,rfl⟩,⟨bits,forks,_,_,HP2.later BS BS BS,BS,BS,BS,BS⟩,HB2.out⟩};go_end0;exact⟨⟨_,rfl⟩,⟨bits,forks,_,_,j.later BS BS BS,BS,BS,BS,BS⟩,f.out⟩};exact ze};{by_cases hc:1<bits;{exact zb0};exact ze};{by_cases hc:low<bits;{exact zb0};exact ze};{by_cases hc:bits=1;{exact zc};exact ze};{by_cases hc:bits=1;{by_cases hd:forks<8;{go_wp2_with (go_at_call 94;refine(Qa _ BS p g _ _ _ _ _ _ _ _ dD BS BS).mo ?_;rintro e w2⟨⟨v2,rfl⟩,hpl2,hb2⟩;have HP2:=hpl2.later (DN _) (DN _) (DN _);have⟨a2,c2,m2,dN,⟨z0,z1,z2,z3,z4,z5⟩,j0,j1,j2,j3,j4,j5⟩:=hpl2.box;have HB2:Hid (Below g w w2):=(HB1.out).tr hb2);go_end0;exact⟨⟨_,rfl⟩,⟨bits,forks+1,_,_,(HP2.forks (forks+1)).later BS BS BS,BS,BS,BS,BS⟩,(HB2.out).s (EO dJ) _⟩};exact ze};exact ze};by_cases hc:0<forks;{have l:0<=(if 1<bits then 1 else bits)/\(if 1<bits then 1 else bits)<=16:=(by split<;>omega);go_upto_region 7 with(first|(go_at_call 96;refine(S3 p g _ _ _ _ _ _ _ _ dD N T BS BS).mo ?_;rintro e wc⟨⟨vc,rfl⟩,⟨V,y⟩,ab⟩;have F:=y.later (DN _) (DN _) (DN _);have aa:Hid (Below g w wc):=(HB1.out).tr ab;have⟨a3,c3,m3,ak,⟨u0,u1,u2,u3,u4,u5⟩,i0,i1,i2,i3,i4,i5⟩:=y.box;have ae:=Je y.rd)|(go_at_call 15;refine(E8 g _ _ _ F.rd BS BS BS).mo ?_;rintro e d⟨x,rfl,o,C,B,b⟩;have af:IntKind.i64.wrap (8+x)=8+x:=yDb;have j:Hid (Eu d p g (P+1+1000+1) k (n+20) (if 1<bits then 1 else bits) forks V true):=F.grown b B;have f:Hid (Below g w d):=Ue aa b (λq hq=>C5) BS)|(go_at_call 94;refine(Qa _ BS p g _ _ _ _ _ _ _ _ j BS BS).mo ?_;rintro e w2⟨⟨v2,rfl⟩,hpl2,hb2⟩;have HP2:=hpl2.later (DN _) (DN _) (DN _);have⟨b2,m2,c2,O,⟨dN,⟨z0,z1,z2,z3,z4,z5⟩,j0,j1,j2,j3,j4,j5⟩,ag,G,ar,aw⟩:=hpl2.last;have HB2:Hid (Below g w w2):=(f.out).tr hb2));have ad:IntKind.i64.wrap (((m2+1:Nat):Int) - 1)=(m2:Int):=xAe;(have M:=cell_regrown z1;have L:=cell_regrown G;refine wp_region_quiet_below BW BW ?_;repeat(go_big_quiet_step ((fail))));refine wpQuiet_nil ?_;intro _ S;obtain⟨⟨E,osq⟩,K⟩:=S;subst K;clear M L;have i:=below_regrown w2 E osq;have⟨w3,t⟩:=AA (grow (redrawn w2 E) osq);rw[<-t]at i⊢;clear t;have D:=HP2.grown (grown_below i (some g)) (Qs HP2.rd (grown_below i none) BU);have H:Hid (Below g w w3):=Ue HB2 (grown_below i none) (λq hq=>by cases hq) BS;clear z0 z1 z2 z3 z4 z5 j0 j1 j2 j3 j4 j5 G;have⟨a4,c4,m4,ru,⟨z0,z1,z2,z3,z4,z5⟩,j0,j1,j2,j3,j4,j5⟩:=D.box;by_cases hd:O=9;{go_wp2;go_end0;exact⟨⟨_,rfl⟩,⟨_,forks - 1,_,_,(D.forks (forks - 1)).later BS BS BS,l.1,l.2,BS,BS⟩,(H.out).s (EO dJ) _⟩};go_wp2;go_end0;exact⟨⟨_,rfl⟩,⟨_,forks,_,_,D.later BS BS BS,l.1,l.2,BS,BS⟩,H.out⟩};exact ze
def LW(w:AU)(p g P k n:Nat)(forks:Int):Prop:=∃(bits:Int)(ba fr:Bool),Eu w p g P k n bits forks ba fr/\0<=bits/\bits<=16
def PX(w:AU)(p g P k n:Nat):Prop:=∃ba fr:Bool,Eu w p g P k n 0 0 ba fr
theorem PY.f{w:AU}{bits forks:Int}(h:PY w p g P k n (if 1<bits then 1 else bits) forks)(h0:0<=bits)(h1:bits<=16):LW w p g P k n forks:=by obtain⟨ba,h⟩:=h;exact⟨_,_,_,h,by split<;>omega,by split<;>omega⟩
def LW.later{w:AU}{forks:Int}(h:LW w p g P k n forks)(h1:P<=P')(e:k'<=k)(f:n<=n'):LW w p g P' k' n' forks:=by obtain⟨a,b,c,h,d⟩:=h;exact⟨a,b,c,h.later h1 e f,d⟩
def LV.later{w:AU}(h:LV w p g P k n)(h1:P<=P')(f:k'<=k)(i:n<=n'):LV w p g P' k' n':=by obtain⟨a,b,c,d,h,e⟩:=h;exact⟨a,b,c,d,h.later h1 f i,e⟩
theorem UU(N:Nat)(hN:N<=40)(p g P k n:Nat)(bits forks:Int)(ba fr:Bool)(w:AU)(h:Eu w p g P k n bits forks ba fr)(s:0<=forks)(H:forks<=8)(hP:P<=8000000)(hn:n<=77000):
  Calls prog 48 #[AH p,AB (N:Int)] w λe w'=>(∃v,e=.returned v)/\PX w' p g (P+55000) (k+1) (n+1200)/\Below g w w':=by
 have T:=BZ h;have x:=h.1;have aj:=Je h.rd;have⟨a,c,m,an,⟨x0,x1,x2,x3,x4,x5⟩,f0,f1,f2,f3,f4,f5⟩:=h.box;clear h;go_enter func48,ntmps48;go_wp2_with(go_at_call 94;refine(Qa _ BS p g _ _ _ _ _ _ _ _ (T.base false) BS BS).mo ?_;rintro e w2⟨⟨v2,rfl⟩,z,Z⟩;have O:=z.later (DN _) (DN _) (DN _);have⟨a2,c2,m2,dN,⟨z0,z1,I,Y,z4,z5⟩,K,U,Q,j3,j4,L⟩:=z.box;have X:=BZ (((BP _ _).s (EO x) _).tr Z));go_loopw [4] (λi wr=>∃j:Nat,j<=N/\i=AB (j:Int)/\LV wr p g (P+50+1100*j) (k+1) (n+1+25*j)/\Below g w wr) (λi _=>N - (intOf i).toNat);case atStart=>exact⟨0,BS,rfl,⟨1,forks,_,_,(O.bits 1).later BS BS BS,BS,BS,BS,BS⟩,(X.out).s (EO x) _⟩
 case round=>
  clear T O X z Z z0 z1 I Y z4 z5 K U Q j3 j4 L x0 x1 x2 x3 x4 x5 f0 f1 f2 f3 f4 f5 s H;obtain⟨j,hj,rfl,⟨b,f,ac,ad,V,y,F,s,H⟩,R⟩:=hrel;have C:=BZ V;have A:=BZ R;clear V R;by_cases ao:j<N
  .go_wp2_with (go_at_call 95;refine(qk p g _ _ _ _ _ _ _ _ C y F s H BS BS).mo ?_;rintro e w3⟨⟨v3,rfl⟩,o,l⟩;have u:=BZ ((A.out).tr l));go_roundw;case rel=>exact⟨j+1,BS,BU,o.later BS BS BS,u.out⟩
   case measure=>simp[intOf];omega
  obtain rfl:j=N:=by omega
  go_wp2_with(go_at_call 96;refine(S3 p g _ _ _ _ _ _ _ _ C y F BS BS).mo ?_;rintro e w3⟨⟨v3,rfl⟩,o,l⟩;have kD:=o.f y F;have u:=BZ ((A.out).tr l));clear C A l o;go_loopg [] 8 (λm wr=>∃(f:Int)(i:Nat),LW wr p g (P+50+44000+1000+1050*i) (k+1) (n+1+1000+20+21*i) f/\0<=f/\f.toNat<=m/\f+i<=8/\Below g w wr);case atStart=>exact⟨f,0,kD.later BS BS BS,s,BS,BS,u.out⟩
  case round=>
   obtain⟨q,i,⟨b4,ai,al,t,J,aa⟩,ag,ak,ah,W⟩:=hrel;clear kD u;have af:=Je t.rd;have M:=t.later (DN _) (DN _) (DN _);have S:=BZ W;have⟨a4,c4,m4,ru,⟨z0,z1,I,Y,z4,z5⟩,K,U,Q,j3,j4,L⟩:=t.box;have ap:IntKind.i64.wrap (q - 1)=q - 1:=xAe;clear t W;by_cases hq:0<q
   .go_wp2_with (first|(go_at_call 94;refine(Qa _ BS p g _ _ _ _ _ _ _ _ M BS BS).mo ?_;rintro e B⟨⟨v5,rfl⟩,d,G⟩;have E:=d.later (DN _) (DN _) (DN _);have⟨a5,c5,m5,rq,⟨u0,u1,u2,u3,u4,u5⟩,i0,i1,i2,i3,i4,i5⟩:=d.box;have D:=BZ ((S.out).tr G))|(go_at_call 96;refine(S3 p g _ _ _ _ _ _ _ _ (E.forks (q - 1)) J aa BS BS).mo ?_;rintro e w6⟨⟨v6,rfl⟩,ry,ab⟩;have ae:=ry.f J aa;have bg:=BZ (((D.out).s (EO x) _).tr ab)));go_roundg (q - 1).toNat
    rotate_left
    {omega};exact⟨q - 1,i+1,ae.later BS BS BS,BS,BS,BS,bg.out⟩
   (obtain rfl:q=0:=by omega);go_wp2_with(go_at_call 94;refine(Qa _ BS p g _ _ _ _ _ _ _ _ M BS BS).mo ?_;rintro e B⟨⟨v5,rfl⟩,d,G⟩;have E:=d.later (DN _) (DN _) (DN _);have⟨a5,c5,m5,rq,⟨u0,u1,u2,u3,u4,u5⟩,i0,i1,i2,i3,i4,i5⟩:=d.box;have D:=BZ ((S.out).tr G));go_end0;exact⟨⟨_,rfl⟩,⟨_,_,(E.bits 0).later BS BS BS⟩,(D.out).s (EO x) _⟩
end
def Eu.list{w:AU}{p g P k n:Nat}{bits forks:Int}{ba fr:Bool}(h:Eu w p g P k n bits forks ba fr):∃(l:AP)(a:Δ)(c:Nat),OY w p g (AE a l.length c) bits forks ba fr/\(Sv w (upTo g) [([sl (Cc l)],[AE a l.length c])]/\l.length<=c)/\(∀i∈l,Rk i/\i.O.args.length<=3)/\k<=l.length/\l.length<=n:=by obtain⟨q,v,b,c⟩:=h;obtain⟨l,a,m,rfl,f,j,o,e⟩:=c.ice (λb d=>by rcases BD.1 d with rfl|d;omega;have:=Jt.1 d;omega);exact⟨l,a,m,PB6.box b,⟨f.sub (λ_ h=>.tail _ h) (λ_ h=>h),e⟩,j,o⟩
def ly{w:AU}{g P:Nat}(h:Kw w g P):Eu (w.alloc (.cells #[AH g,AG,AB 0,AB 0,.bool false,.bool false] 97)) w.heap.size g P 0 0 0 0 false false:=by have a:=Je h;refine⟨a,AG,B6.new _ _ _ _ _ _ _ _,[],[],BJ _ _ _ _,Sv.nil (Sv.box (bs:=upTo g) (ts:=[]) ⟨PT a,λx b=>by cases b⟩ _),(λ_ h=>by cases h),⟨DN _,DN _⟩,Qs h (grown_below (Aa _ _) none) BU⟩
def cG(g P:Nat)(w:AU)(hr:Kw w g P)(hP:P<=4000000):
  Calls prog 18 #[AH g] w λe w'=>K2 3 e w w' g (P+3600000) 76000:=by
 have ah:=Je hr;have V:Hid (Eu (w.alloc (.cells #[AH g,AG,AB 0,AB 0,.bool false,.bool false] 97)) w.heap.size g P 0 0 0 0 false false):=ly hr;have ab:Hid (Below g w (w.alloc (.cells #[AH g,AG,AB 0,AB 0,.bool false,.bool false] 97))):=(Aa _ _).mono (EO ah);clear hr;go_enter func18,ntmps18;go_upto_if 10 with(go_at_call 15;refine(E8 g _ _ _ V.rd BS BS BS).mono ?_;rintro e w1⟨x,rfl,an,aw,aS,G⟩;have o:Hid (Eu w1 w.heap.size g (P+1) 0 0 0 0 false false):=V.grown G aS;have E:Hid (Below g w w1):=Ue ab G (λq hq=>C5) BS);have⟨p,hp⟩:=AA w.heap.size;rw[<-hp]at o⊢;have dJ:g<p:=BS;clear hp;clear V ab aS G;have⟨v,a1,c1,A,a,t,aa,Q⟩:=o.list;obtain⟨sQ,⟨H,M,X,J,F,N⟩,S,U,D,I,C,Y⟩:=A;by_cases hx:x=0
 .subst hx;go_wp2;go_ret;exact⟨v,_,_,rfl,a.1,t,BS,a.2,Iw o.rd BS,E.out⟩
 go_wp2_with (go_at_call 15;refine(E8 g _ _ _ o.rd BS BS BS).mono ?_;rintro e w2⟨av,rfl,ai,au,dM,T⟩;have ac:Hid (Eu w2 p g (P+1+1) 0 0 0 0 false false):=o.grown T dM;have af:Hid (Below g w w2):=Ue E T (λq hq=>C5) BS);have⟨ad,ak⟩:=Hh ai;subst ak;clear o E H M X J F N S U D I C Y a t aa Q dM T;go_loopw [4] (λi wr=>∃j r:Nat,j+r=1+ad/\i=AB (j:Int)/\PX wr p g (P+2+55001*r) r (1200*r)/\Below g w wr) (λi _=>(intOf i).toNat);case atStart=>exact⟨1+ad,0,BS,by go_num,⟨_,_,ac.later BS BS BS⟩,af.out⟩
 case round=>
  clear ac af;obtain⟨j,r,ao,rfl,⟨ba,fr,d⟩,y⟩:=hrel;have b:Hid (Eu wr p g (P+2+55001*r) r (1200*r) 0 0 ba fr):=d;have s:Hid (Below g w wr):=y;have uf:=Je d.rd;clear d y;by_cases al:0<j
  .go_wp2_with (first|(go_at_call 15;refine(E8 g _ _ _ b.rd BS BS BS).mono ?_;rintro e w3⟨z,rfl,B,ae,u,c⟩;have f:Hid (Eu w3 p g (P+2+55001*r+1) r (1200*r) 0 0 ba fr):=b.grown c u;have l:Hid (Below g w w3):=Ue s c (λq hq=>C5) BS;have⟨Z,O⟩:=Hh B;subst O)|(go_at_call 48;refine(UU Z BS p g _ _ _ _ _ _ _ _ f BS BS BS BS).mono ?_;rintro e R⟨⟨v4,rfl⟩,⟨ag,aj,L⟩,W⟩;have K:Hid (Below g w R):=(l.out).trans W));go_roundw;case rel=>exact⟨j - 1,r+1,BS,by go_num,⟨_,_,L.later BS BS BS⟩,K.out⟩
   case measure=>simp[intOf];omega
  have ap:¬(0:Int)<j:=by omega
  go_upto_if 28 with(go_at_call 15;refine(E8 g _ _ _ b.rd BS BS BS).mono ?_;rintro e w3⟨z,rfl,B,ae,u,c⟩;have f:Hid (Eu w3 p g (P+2+55001*r+1) r (1200*r) 0 0 ba fr):=b.grown c u;have l:Hid (Below g w w3):=Ue s c (λq hq=>C5) BS);clear b s u c;by_cases hz:z=0
  .subst hz;go_wp2;go_loopg [] 60 (λm wr=>∃r:Nat,PX wr p g (P+170000+55001*r) r (3600+1200*r)/\r<=60/\60 - r<=m/\Below g w wr);case atStart=>exact⟨0,⟨_,_,f.later BS BS BS⟩,BS,BS,l.out⟩
   case round=>
    clear f l;obtain⟨r,⟨ba,fr,d⟩,ar,ax,y⟩:=hrel;have b:Hid (Eu wr p g (P+170000+55001*r) r (3600+1200*r) 0 0 ba fr):=d;have s:Hid (Below g w wr):=y;have uf:=Je d.rd;have⟨v,a1,c1,A,a,t,aa,Q⟩:=d.list;obtain⟨sQ,⟨H,M,X,J,F,N⟩,S,U,D,I,C,Y⟩:=A;clear d y;by_cases al:v.length<60
    .go_wp2_with (first|(go_at_call 15;refine(E8 g _ _ _ b.rd BS BS BS).mono ?_;rintro e w3⟨z,rfl,B,ae,u,c⟩;have f:Hid (Eu w3 p g (P+170000+55001*r+1) r (3600+1200*r) 0 0 ba fr):=b.grown c u;have l:Hid (Below g w w3):=Ue s c (λq hq=>C5) BS;have⟨Z,O⟩:=Hh B;subst O)|(go_at_call 48;refine(UU Z BS p g _ _ _ _ _ _ _ _ f BS BS BS BS).mono ?_;rintro e R⟨⟨v4,rfl⟩,⟨ag,aj,L⟩,W⟩;have K:Hid (Below g w R):=(l.out).trans W));go_roundg (60 - (r+1))
     rotate_left
     {omega};exact⟨r+1,⟨_,_,L.later BS BS BS⟩,BS,BS,K.out⟩
    go_wp2;go_ret;exact⟨v,_,_,rfl,a.1,t,BS,a.2,Iw b.rd BS,s.out⟩
  have⟨v,a1,c1,A,a,t,aa,Q⟩:=f.list;obtain⟨sQ,⟨H,M,X,J,F,N⟩,S,U,D,I,C,Y⟩:=A;go_wp2;go_ret;exact⟨v,_,_,rfl,a.1,t,BS,a.2,Iw f.rd BS,l.out⟩
