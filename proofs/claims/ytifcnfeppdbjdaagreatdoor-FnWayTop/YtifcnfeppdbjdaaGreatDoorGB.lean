import Derived.Test.YtifcnfeppdbjdaaGreatDoorCI3
namespace Go.RowKit
theorem AV {p:Prop}(h:p):Hid p:=h
end Go.RowKit
set_option maxHeartbeats 4000000
set_option maxRecDepth 100000
namespace Go.Proofs.YtifcnfeppdbjdaaGreatDoor
open Tryz Stil Go.RowKit Go.Sort Go.BigFrame
variable {W a w':World}{n:Nat}{v:Value}
theorem J3 (op:Int)(w:World):
  Calls prog 72 #[AB op] w λe w'=>e=.returned (AB (Stil.arity op))/\w'=w:=by
 go_enter func72,ntmps72
 go_wp2
 all_goals go_ret
 all_goals (refine⟨F5 ?_,rfl⟩;go_light;simp only[EC,CS] at*;unfold Stil.arity;first | (simp[*];done) | (repeat (first | rw[if_pos AQ] | rw[if_neg AQ])))
theorem GX (k n p a b:Int)(w:World)(f:-9223372036854775808<=n)(d:n<=9223372036854775807):
  Calls prog 96 #[.agg #[AB k,AB n,AB p],AB a,AB b] w (AN w (.bool (Oh k n p a b))):=by
 cases h:Ih k n p;all_goals
  go_enter func96,ntmps96
  go_wp2_with (go_at_call 130;refine(JP _ _ _ _ f d).mono ?_;rintro e w' ⟨rfl,c⟩;obtain⟨i,g⟩:=Ef c)
  all_goals go_ret
  all_goals (refine⟨Ae ?_,Uj BD⟩)
  all_goals go_light
  all_goals (rw[Oh,h,DY];clear h;simp[*])
theorem Bd {w:World}(h:AO w a)(o:Obj):AO w (a.alloc o):=h.alloc h.size o
theorem BU {a b:Nat}(h:a<b:=by first | with_reducible assumption | (simp;done) | (simp;omega)):a<b:=h
theorem A5 {w:World}{a:Addr}{v:Bool}(hb:Below n w W)(h1:a.block<n:=by simp)(h2:w.frozen? a=v:=by simp[go_sem]):W.frozen? a=v:=(hb.frozen h1).trans h2
theorem A3 {w:World}{a:Addr}{v:Option Value}(hb:Below n w W)(h1:a.block<n:=by simp)(h2:w.cell? a=v:=by simp[go_sem]):W.cell? a=v:=(hb.cell h1).trans h2
theorem Ja {w:World}(h:AO w a)(n:Nat):AO w (a.drewN n):=below_drewN h n
theorem J7 {w:World}(h:AO w a):AO w a.drew:=h.drew
theorem Bc {w b:World}(h:AO w a)(k:AO a b):AO w b:=h.trans (k.mono h.size)
theorem Dj {w:World}{p:Addr}(b:w.heap.size<=p.block)(h:AO w a)(v:Value):AO w (a.setCell p v):=h.setCell b v
theorem Gq {w:World}(h:AO w a)(d:Nat)(os:Array Obj):AO w (grow (redrawn a d) os):=Bc h (below_regrown a d os)
theorem Av {w:World}(h:Below n w W:=by(repeat (first | exact Below.refl _ _ | assumption | refine Bd ?_ _ | refine Ja ?_ _ | refine J7 ?_ | refine Gq ?_ _ _ | refine Dj (CG _) ?_ _ | refine Bc ?_ (by assumption)))):Below n w W:=h
theorem AW {w:World}(h:Below n w W:=by(repeat (first | with_reducible exact Below.refl _ _ | with_reducible assumption | with_reducible refine Dj (by first | exact CG _ | (simp;done) | (simp;omega) | omega) ?_ _ | with_reducible refine Bd ?_ _ | with_reducible refine Ja ?_ _ | with_reducible refine J7 ?_ | with_reducible refine Gq ?_ _ _ | with_reducible refine Bc ?_ (by assumption)))):Below n w W:=h
theorem ZQ {w:World}{b:Nat}(h:b<w.heap.size)(k:AO w a):b<a.heap.size:=CB h k.size
theorem Axl {w w1:World}{o:Obj}(b:Below ((w.alloc o).drewN n).heap.size ((w.alloc o).drewN n) w1):w.heap.size<w1.heap.size:=by have:=b.size;simp at this;omega
def Jg (w:World)(b o:Nat)(d:Stil.CC):Prop:=w.cell? (AK b o)=some (AB d.kind)/\w.cell? (AK b (o+1))=some (AB d.n)/\w.cell? (AK b (o+2))=some (AB d.p)
def Dk (w:World)(v:Value)(c:List Stil.CC):Prop:=∃a cap,v=AE a c.length cap/\∀i (h:i<c.length),∃b o,a=some (AK b o)/\b<w.heap.size/\Jg w b (o+i*3) c[i]
theorem Jg.below {w:World}{b o:Nat}{d:Stil.CC}(h:Jg w b o d)(c:AO w w')(e:b<w.heap.size):Jg w' b o d:=by
 unfold Jg at*;rw[c.cell (p:=(AK b o)) e,c.cell (p:=(AK b (o+1))) e,c.cell (p:=(AK b (o+2))) e];exact h
theorem Dk.below {w:World}{e:List Stil.CC}(h:Dk w v e)(c:AO w w'):Dk w' v e:=by
 obtain⟨a,cap,g,j⟩:=h;refine⟨a,cap,g,λi hi=>?_⟩;obtain⟨b,o,f,d,hd⟩:=j i hi;exact⟨b,o,f,CB d c.size,hd.below c d⟩
theorem Dk.one {w:World}{d:Stil.CC}(h:Dk w v [d]):∃b o cap,v=AE (some (AK b o)) 1 cap/\b<w.heap.size/\Jg w b o d:=by
 obtain⟨a,cap,c,e⟩:=h;obtain⟨b,o,rfl,f,hd⟩:=e 0 AU;exact⟨b,o,cap,c,f,hd⟩
theorem Dk.two {w:World}{d e:Stil.CC}(h:Dk w v [d,e]):∃b o cap,v=AE (some (AK b o)) 2 cap/\b<w.heap.size/\Jg w b o d/\Jg w b (o+3) e:=by
 obtain⟨a,cap,g,f⟩:=h;obtain⟨b,o,rfl,i,hd⟩:=f 0 AU;obtain⟨k,l,c,_,j⟩:=f 1 AU;simp only[CZ,Addr.mk.injEq,E0] at c;obtain⟨rfl,rfl⟩:=c;exact⟨b,o,cap,g,i,hd,j⟩
theorem pe (op:Int)(a:Option Addr)(len cap:Nat)(w:World)(h:op<1\/10<op\/(len:Int)≠Stil.arity op)(_hl:len<=9223372036854775807):
  Calls prog 95 #[.agg #[AB op,AE a len cap]] w (AN w (.bool false)):=by
 by_cases b:op<1
 ·have f:decide (op<1)=true:=by simpa using b
  go_enter func95,ntmps95
  go_wp2
  go_quiet (exact Calls.quiet_of_same (J3 _ _))
  go_wp2
  go_ret;exact⟨rfl,below_drewN (Aa _ _) _⟩
 ·have f:decide (op<1)=false:=by simpa using b
  by_cases c:10<op
  ·have d:decide (10<op)=true:=by simpa using c
   go_enter func95,ntmps95
   go_wp2
   go_quiet (exact Calls.quiet_of_same (J3 _ _))
   go_wp2
   go_ret;exact⟨rfl,below_drewN (Aa _ _) _⟩
  ·have d:decide (10<op)=false:=by simpa using c
   have g:((len:Int) !=Stil.arity op)=true:=by rw[bne_iff_ne];omega
   clear h;go_enter func95,ntmps95
   go_wp2
   go_quiet (exact Calls.quiet_of_same (J3 _ _))
   go_wp2
   go_ret;exact⟨rfl,below_drewN (Aa _ _) _⟩
theorem pD (op:Int)(b o cap:Nat)(d:Stil.CC)(w:World)(h1:1<=op)(r:op<=2)(k:b<w.heap.size)(f:Jg w b o d)(c:-9223372036854775808<=d.n)(g:d.n<=9223372036854775807):
  Calls prog 95 #[.agg #[AB op,AE (some (AK b o)) 1 cap]] w (AN w (.bool d.isBit)):=by
 obtain⟨t,i,m⟩:=f;have s:decide (op<1)=false:=by simp;omega
 have l:decide (10<op)=false:=by simp;omega
 have j:Stil.arity op=1:=by unfold Stil.arity;rw[if_pos AQ]
 go_enter func95,ntmps95
 go_wp2
 go_quiet (exact Calls.quiet_of_same (J3 _ _))
 go_wp2_with (go_at_call 129;refine(Y4 _ _ _ _ c g).mono ?_;rintro e w' ⟨rfl,q⟩)
 go_ret;exact⟨rfl,Av⟩
theorem pZ (op:Int)(b o cap:Nat)(d f:Stil.CC)(w:World)(h1:3<=op)(M:op<=4)(t:b<w.heap.size)(u:Jg w b o d)(r:Jg w b (o+3) f)(g:-9223372036854775808<=d.n)(i:d.n<=9223372036854775807)(l:-9223372036854775808<=f.n)(q:f.n<=9223372036854775807):
  Calls prog 95 #[.agg #[AB op,AE (some (AK b o)) 2 cap]] w (AN w (.bool (d.isBit && f.ok && f.kind==5))):=by
 obtain⟨E,y,A⟩:=u;obtain⟨C,B,N⟩:=r;have G:b<w.heap.size+1:=AQ
 have O:decide (op<1)=false:=by simp;omega
 have H:decide (10<op)=false:=by simp;omega
 have F:Stil.arity op=2:=by unfold Stil.arity;rw[if_neg AQ,if_neg AQ,if_pos AQ]
 have z:decide (op<=2)=false:=by simp;omega
 unfold Stil.CC.isBit Stil.CC.ok;cases L:Rj d.kind d.n d.p
 ·go_enter func95,ntmps95
  go_wp2
  go_quiet (exact Calls.quiet_of_same (J3 _ _))
  go_wp2_with (go_at_call 129;refine(Y4 _ _ _ _ g i).mono ?_;rintro e w' ⟨rfl,c⟩;obtain⟨m,j⟩:=Ef c)
  go_ret;exact⟨rfl,Av⟩
 ·cases D:Ih f.kind f.n f.p
  ·go_enter func95,ntmps95
   go_wp2
   go_quiet (exact Calls.quiet_of_same (J3 _ _))
   go_wp2_with (first | (go_at_call 129;refine(Y4 _ _ _ _ g i).mono ?_;rintro e w' ⟨rfl,c⟩;obtain⟨m,j⟩:=Ef c) | (go_at_call 130;refine(JP _ _ _ _ l q).mono ?_;rintro e s ⟨rfl,k⟩))
   go_ret;exact⟨Ae AU,Av⟩
  ·go_enter func95,ntmps95
   go_wp2
   go_quiet (exact Calls.quiet_of_same (J3 _ _))
   go_wp2_with (first | (go_at_call 129;refine(Y4 _ _ _ _ g i).mono ?_;rintro e w' ⟨rfl,c⟩;obtain⟨m,j⟩:=Ef c;have x:=Axl c;have J:=Nat.lt_trans t x) | (go_at_call 130;refine(JP _ _ _ _ l q).mono ?_;rintro e s ⟨rfl,k⟩;obtain⟨I,K⟩:=Ef k))
   go_ret;exact⟨Ae AU,Av⟩
theorem pE (op:Int)(b o cap:Nat)(d f:Stil.CC)(w:World)(h1:5<=op)(H:op<=10)(C:b<w.heap.size)(m:Jg w b o d)(j:Jg w b (o+3) f)(u:-9223372036854775808<=d.n)(z:d.n<=9223372036854775807)(G:-9223372036854775808<=f.n)(K:f.n<=9223372036854775807):
  Calls prog 95 #[.agg #[AB op,AE (some (AK b o)) 2 cap]] w (AN w (.bool (d.isWhole && f.isWhole || d.isReal && f.isReal))):=by
 obtain⟨B,r,x⟩:=m;obtain⟨A,y,I⟩:=j;have E:b<w.heap.size+1:=AQ
 have J:decide (op<1)=false:=by simp;omega
 have F:decide (10<op)=false:=by simp;omega
 have D:Stil.arity op=2:=by unfold Stil.arity;rw[if_neg AQ,if_neg AQ,if_pos AQ]
 have t:decide (op<=2)=false:=by simp;omega
 have s:decide (op<=4)=false:=by simp;omega
 unfold Stil.CC.isWhole Stil.CC.isReal;go_enter func95,ntmps95
 go_wp2
 go_quiet (exact Calls.quiet_of_same (J3 _ _))
 go_wp2_with (first | (go_at_call 97;refine(Ux _ _ _ _ BD BD).mono ?_;rintro e g ⟨rfl,c⟩;obtain⟨q,i⟩:=Ef c;have k:w.heap.size<g.heap.size:=CB A4 c.size;have l:=CB A4 c.size) | (go_at_call 98;refine(Wq _ _ _ _ BD BD).mono ?_;rintro e g ⟨rfl,c⟩;obtain⟨q,i⟩:=Ef c;have k:w.heap.size<g.heap.size:=CB A4 c.size;have l:=CB A4 c.size))
 all_goals go_ret
 all_goals (refine⟨Ae ?_,Av⟩)
 all_goals go_light
 all_goals simp[*]
theorem uO (op:Int)(v:Value)(i:List Stil.CC)(w:World)(k:Dk w v i)(j:∀d∈i,d.fits)(hl:i.length<=9223372036854775807):
  Calls prog 95 #[.agg #[AB op,v]] w (AN w (.bool (Du op i))):=by
 have c:∀(h:op<1\/10<op\/(i.length:Int)≠Stil.arity op),Du op i=false->Calls prog 95 #[.agg #[AB op,v]] w (AN w (.bool (Du op i))):=by
  intro h x;obtain⟨a,cap,rfl,_⟩:=k;rw[x];exact pe op a i.length cap w h hl
 by_cases h1:op<1\/10<op
 ·exact c AQ (by unfold Du;rw[if_pos h1])
 ·by_cases l:op<=2
  ·have ha:Stil.arity op=1:=by unfold Stil.arity;rw[if_pos AQ]
   match i,k,j,hl,c with
   | [],_,_,_,c=>exact c yFa yEg
   | [d],k,j,_,_=>
    obtain⟨b,o,cap,rfl,q,hd⟩:=k.one;have:=(j d AU).2.1
    have e:Du op [d]=d.isBit:=by unfold Du;rw[if_neg h1];simp[l]
    rw[e];exact pD op b o cap d w AQ l q hd this.1 this.2
   | [d,f],_,_,_,c=>exact c yFa (by unfold Du;rw[if_neg h1];simp[l])
   | d::f::g::r,_,_,_,c=>exact c (by right;right;simp[ha];omega) yEg
  ·have ha:Stil.arity op=2:=by unfold Stil.arity;rw[if_neg AQ,if_neg AQ,if_pos AQ]
   match i,k,j,hl,c with
   | [],_,_,_,c=>exact c yFa yEg
   | [d],_,_,_,c=>exact c yFa (by unfold Du;rw[if_neg h1];simp[l])
   | [d,f],k,j,_,_=>
    obtain⟨b,o,cap,rfl,q,hd,u⟩:=k.two;have s:=(j d AU).2.1;have m:=(j f AU).2.1;by_cases t:op<=4
    ·have e:Du op [d,f]=(d.isBit && f.ok && f.kind==5):=by unfold Du;rw[if_neg h1];simp[l,t]
     rw[e];exact pZ op b o cap d f w AQ t q hd u s.1 s.2 m.1 m.2
    ·have e:Du op [d,f]=(d.isWhole && f.isWhole || d.isReal && f.isReal):=by unfold Du;rw[if_neg h1];simp[l,t]
     rw[e];exact pE op b o cap d f w AQ AQ q hd u s.1 s.2 m.1 m.2
   | d::f::g::r,_,_,_,c=>exact c (by right;right;simp[ha];omega) yEg
theorem mq (op:Int)(b o cap:Nat)(d:Stil.CC)(r:List Stil.CC)(w:World)(L:b<w.heap.size)(hl:r.length<=100)
  (A:∀i (h:i<(d::r).length),Jg w b (o+i*3) (d::r)[i]) (z:∀x∈d::r,x.fits):
  Calls prog 99 #[.agg #[AB op,AE (some (AK b o)) (r.length+1) cap]] w (AN w (.bool (FB op (d::r)))):=by
 have Z:b<w.heap.size+1:=AQ
 obtain⟨E,B,P⟩:=A 0 AU;simp only[FG,EO,EP] at E B P;obtain⟨O,R⟩:=(z d AU).2.1;cases S:Oh d.kind d.n d.p 9 10
 ·have t:Hid (FB op (d::r)=false):=by show _=_;simp only[FB,Stil.CC.kindIs,S];rfl
  clear A z;go_enter func99,ntmps99
  go_wp2_with (first | (go_at_call 96;refine(GX _ _ _ _ _ _ O R).mono ?_;rintro e F ⟨rfl,hb⟩;obtain⟨m,j⟩:=Ef hb;have l:w.heap.size<F.heap.size:=CB A4 hb.size;have g:=CB A4 hb.size))
  go_ret;exact⟨Ae (by rw[t.out]),Av⟩
 ·cases U:d.kind==9
  ·have t:Hid (FB op (d::r)=(Om false r && (op !=35))):=by show _=_;simp only[FB,Stil.CC.kindIs,S,U];simp
   have N:=AV A;have Q:=AV z;clear A z;go_enter func99,ntmps99
   go_wp2_with (first | (go_at_call 96;refine(GX _ _ _ _ _ _ O R).mono ?_;rintro e F ⟨rfl,hb⟩;obtain⟨m,j⟩:=Ef hb;have l:w.heap.size<F.heap.size:=CB A4 hb.size;have g:=CB A4 hb.size))
   clear m j l g;go_loopw [4] (λi wr=>∃k:Nat,k<=r.length/\i=AB ((k:Int)+1)/\Om false r=Om false (r.drop k)/\Below (w.heap.size+1) (w.alloc (.cells #[AB op,AE (some (AK b o)) (r.length+1) cap] 51)) wr) (λi _=>r.length+1 - (intOf i).toNat)
   case atStart=>exact⟨0,AQ,rfl,rfl,hb.mono AU⟩
   case round=>
    clear hb;obtain⟨k,X,rfl,G,c⟩:=hrel;have q:=AV G;clear G E B P;have T:w.heap.size<wr.heap.size:=by have:=c.size;simp at this;omega
    have E:wr.cell? (AL w 0)=some (AB op):=A3 c;have V:wr.frozen? (AL w 0)=false:=A5 c;have B:wr.cell? (AL w 1)=some (AE (some (AK b o)) (r.length+1) cap):=A3 c;have Y:wr.frozen? (AL w 1)=false:=A5 c;have C:=(Aa _ _).trans (c.mono AQ);have g:=ZQ L C;by_cases M:k<r.length
    ·obtain⟨D,H,K⟩:=(N (k+1) Ax).below C L
     simp only[J1] at D H K;obtain⟨u,y⟩:=(Q r[k] AU).2.1;have f:Hid (Om false (r.drop k)=(J6 r[k].kind r[k].n r[k].p && Om false (r.drop (k+1)))):=by
      show(r.drop k).all _=_
      rw[GQ M,List.all_cons];rfl
     obtain⟨x,I⟩:=AA (r[k])
     rw[<-I] at D H K u y f;clear I;cases J:J6 x.kind x.n x.p
     ·rw[J] at f
      go_wp2_with (first | (go_at_call 98;refine(Wq _ _ _ _ u y).mono ?_;rintro e s ⟨rfl,hb⟩;obtain⟨m,j⟩:=Ef hb;have l:w.heap.size<s.heap.size:=CB A4 hb.size;have g:=CB A4 hb.size))
      go_ret;exact⟨Ae (by rw[t.out,q.out,f.out];rfl),Av⟩
     ·rw[J] at f
      go_wp2_with (first | (go_at_call 98;refine(Wq _ _ _ _ u y).mono ?_;rintro e s ⟨rfl,hb⟩;obtain⟨m,j⟩:=Ef hb;have l:w.heap.size<s.heap.size:=CB A4 hb.size;have g:=CB A4 hb.size))
      refine⟨⟨k+1,AQ,by go_num,by rw[q.out,f.out];rfl,?_⟩,by simp[intOf];omega⟩;exact c.trans (hb.mono T)
    ·go_wp2
     go_ret;exact⟨Ae (by rw[t.out,q.out,GR AQ];rfl),Av⟩
  ·have t:Hid (FB op (d::r)=Om true r):=by show _=_;simp only[FB,Stil.CC.kindIs,S,U];simp
   have N:=AV A;have Q:=AV z;clear A z;go_enter func99,ntmps99
   go_wp2_with (first | (go_at_call 96;refine(GX _ _ _ _ _ _ O R).mono ?_;rintro e F ⟨rfl,hb⟩;obtain⟨m,j⟩:=Ef hb;have l:w.heap.size<F.heap.size:=CB A4 hb.size;have g:=CB A4 hb.size))
   clear m j l g;go_loopw [4] (λi wr=>∃k:Nat,k<=r.length/\i=AB ((k:Int)+1)/\Om true r=Om true (r.drop k)/\Below (w.heap.size+1) (w.alloc (.cells #[AB op,AE (some (AK b o)) (r.length+1) cap] 51)) wr) (λi _=>r.length+1 - (intOf i).toNat)
   case atStart=>exact⟨0,AQ,rfl,rfl,hb.mono AU⟩
   case round=>
    clear hb;obtain⟨k,X,rfl,G,c⟩:=hrel;have q:=AV G;clear G E B P;have T:w.heap.size<wr.heap.size:=by have:=c.size;simp at this;omega
    have E:wr.cell? (AL w 0)=some (AB op):=A3 c;have V:wr.frozen? (AL w 0)=false:=A5 c;have B:wr.cell? (AL w 1)=some (AE (some (AK b o)) (r.length+1) cap):=A3 c;have Y:wr.frozen? (AL w 1)=false:=A5 c;have C:=(Aa _ _).trans (c.mono AQ);have g:=ZQ L C;by_cases M:k<r.length
    ·obtain⟨D,H,K⟩:=(N (k+1) Ax).below C L
     simp only[J1] at D H K;obtain⟨u,y⟩:=(Q r[k] AU).2.1;have f:Hid (Om true (r.drop k)=(Je r[k].kind r[k].n r[k].p && Om true (r.drop (k+1)))):=by
      show(r.drop k).all _=_
      rw[GQ M,List.all_cons];rfl
     obtain⟨x,I⟩:=AA (r[k])
     rw[<-I] at D H K u y f;clear I;cases J:Je x.kind x.n x.p
     ·rw[J] at f
      go_wp2_with (first | (go_at_call 97;refine(Ux _ _ _ _ u y).mono ?_;rintro e s ⟨rfl,hb⟩;obtain⟨m,j⟩:=Ef hb;have l:w.heap.size<s.heap.size:=CB A4 hb.size;have g:=CB A4 hb.size))
      go_ret;exact⟨Ae (by rw[t.out,q.out,f.out];rfl),Av⟩
     ·rw[J] at f
      go_wp2_with (first | (go_at_call 97;refine(Ux _ _ _ _ u y).mono ?_;rintro e s ⟨rfl,hb⟩;obtain⟨m,j⟩:=Ef hb;have l:w.heap.size<s.heap.size:=CB A4 hb.size;have g:=CB A4 hb.size))
      refine⟨⟨k+1,AQ,by go_num,by rw[q.out,f.out];rfl,?_⟩,by simp[intOf];omega⟩;exact c.trans (hb.mono T)
    ·go_wp2
     go_ret;exact⟨Ae (by rw[t.out,q.out,GR AQ];rfl),Av⟩
theorem uQ (op:Int)(a:Option Addr)(len cap:Nat)(w:World)(h:op<21\/37<op\/(len:Int)≠Stil.arity op)(_hl:len<=9223372036854775807):
  Calls prog 64 #[.agg #[AB op,AE a len cap]] w (AN w (.bool false)):=by
 by_cases b:op<21
 ·have f:decide (op<21)=true:=by simpa using b
  go_enter func64,ntmps64
  go_wp2
  go_quiet (exact Calls.quiet_of_same (J3 _ _))
  go_wp2
  go_ret;exact⟨rfl,below_drewN (Aa _ _) _⟩
 ·have f:decide (op<21)=false:=by simpa using b
  by_cases c:37<op
  ·have d:decide (37<op)=true:=by simpa using c
   go_enter func64,ntmps64
   go_wp2
   go_quiet (exact Calls.quiet_of_same (J3 _ _))
   go_wp2
   go_ret;exact⟨rfl,below_drewN (Aa _ _) _⟩
  ·have d:decide (37<op)=false:=by simpa using c
   have g:((len:Int) !=Stil.arity op)=true:=by rw[bne_iff_ne];omega
   clear h;go_enter func64,ntmps64
   go_wp2
   go_quiet (exact Calls.quiet_of_same (J3 _ _))
   go_wp2
   go_ret;exact⟨rfl,below_drewN (Aa _ _) _⟩
theorem sF (op:Int)(b o cap:Nat)(d:Stil.CC)(w:World)(h1:21<=op)(l:op<=37)(c:Stil.arity op=1)(z:b<w.heap.size)(k:Jg w b o d)(r:-9223372036854775808<=d.n)(u:d.n<=9223372036854775807):
  Calls prog 64 #[.agg #[AB op,AE (some (AK b o)) 1 cap]] w (AN w (.bool (Gt op [d]))):=by
 obtain⟨y,q,t⟩:=k;have A:b<w.heap.size+1:=AQ
 have C:b<w.heap.size+1+1:=AQ
 have j:op=21\/op=22\/op=23\/op=25:=by
  unfold Stil.arity at c;split at c
  ·omega
  ·split at c
   ·omega
   ·split at c<;>omega
 have i:Hid (Gt op [d]=if op=21 then Oh d.kind d.n d.p 2 3 else if op=22 then Oh d.kind d.n d.p 2 3 || Oh d.kind d.n d.p 4 4 else if op=23 then Oh d.kind d.n d.p 2 3 || Oh d.kind d.n d.p 4 7 || Oh d.kind d.n d.p 8 8 else Oh d.kind d.n d.p 4 4):=by
  show _=_
  unfold Gt;rw[if_neg (by simp[c];omega)];rfl
 have F:decide (op<21)=false:=by simp;omega
 have B:decide (37<op)=false:=by simp;omega
 clear h1 l;rcases j with rfl | rfl | rfl | rfl
 all_goals
  go_enter func64,ntmps64
  go_wp2
  go_quiet (exact Calls.quiet_of_same (J3 _ _))
  go_wp2_with (first | (go_at_call 96;refine(GX _ _ _ _ _ _ BD BD).mono ?_;rintro e g ⟨rfl,f⟩;obtain⟨E,m⟩:=Ef f;have x:w.heap.size<g.heap.size:=CB A4 f.size;have D:w.heap.size+1<g.heap.size:=CB A4 f.size;have s:=CB A4 f.size))
  all_goals go_ret
  all_goals (refine⟨Ae ?_,Av⟩)
  all_goals rw[i.out]
  all_goals go_light
  all_goals simp[*]
theorem po (op:Int)(b o cap:Nat)(d f:Stil.CC)(w:World)(j:op=24)(A:b<w.heap.size)(k:Jg w b o d)(i:Jg w b (o+3) f)(q:-9223372036854775808<=d.n)(u:d.n<=9223372036854775807)(E:-9223372036854775808<=f.n)(K:f.n<=9223372036854775807):
  Calls prog 64 #[.agg #[AB op,AE (some (AK b o)) 2 cap]] w (AN w (.bool (Oh d.kind d.n d.p 2 3 && Oh f.kind f.n f.p 5 5))):=by
 obtain⟨z,m,s⟩:=k;obtain⟨x,t,I⟩:=i;have C:b<w.heap.size+1:=AQ
 have F:b<w.heap.size+1+1:=AQ
 have B:Stil.arity op=2:=by unfold Stil.arity;rw[if_neg AQ,if_neg AQ,if_pos AQ]
 have J:decide (op<21)=false:=by simp;omega
 have D:decide (37<op)=false:=by simp;omega
 subst j;all_goals
  go_enter func64,ntmps64
  go_wp2
  go_quiet (exact Calls.quiet_of_same (J3 _ _))
  go_wp2_with (first | (go_at_call 96;refine(GX _ _ _ _ _ _ BD BD).mono ?_;rintro e g ⟨rfl,c⟩;obtain⟨H,l⟩:=Ef c;have y:w.heap.size<g.heap.size:=CB A4 c.size;have G:w.heap.size+1<g.heap.size:=CB A4 c.size;have r:=CB A4 c.size))
  all_goals go_ret
  all_goals (refine⟨Ae ?_,Av⟩)
  all_goals go_light
  all_goals simp[*]
theorem U8 (op:Int)(b o cap:Nat)(d f:Stil.CC)(w:World)(j:op=26\/op=27\/op=28)(A:b<w.heap.size)(k:Jg w b o d)(i:Jg w b (o+3) f)(q:-9223372036854775808<=d.n)(u:d.n<=9223372036854775807)(E:-9223372036854775808<=f.n)(K:f.n<=9223372036854775807):
  Calls prog 64 #[.agg #[AB op,AE (some (AK b o)) 2 cap]] w (AN w (.bool (Oh d.kind d.n d.p 7 7 && Oh f.kind f.n f.p 11 11 && decide (0<=f.n)))):=by
 obtain⟨z,m,s⟩:=k;obtain⟨x,t,I⟩:=i;have C:b<w.heap.size+1:=AQ
 have F:b<w.heap.size+1+1:=AQ
 have B:Stil.arity op=2:=by unfold Stil.arity;rw[if_neg AQ,if_neg AQ,if_pos AQ]
 have J:decide (op<21)=false:=by simp;omega
 have D:decide (37<op)=false:=by simp;omega
 rcases j with rfl | rfl | rfl
 all_goals
  go_enter func64,ntmps64
  go_wp2
  go_quiet (exact Calls.quiet_of_same (J3 _ _))
  go_wp2_with (first | (go_at_call 96;refine(GX _ _ _ _ _ _ BD BD).mono ?_;rintro e g ⟨rfl,c⟩;obtain⟨H,l⟩:=Ef c;have y:w.heap.size<g.heap.size:=CB A4 c.size;have G:w.heap.size+1<g.heap.size:=CB A4 c.size;have r:=CB A4 c.size))
  all_goals go_ret
  all_goals (refine⟨Ae ?_,Av⟩)
  all_goals go_light
  all_goals simp[*]
theorem pu (op:Int)(b o cap:Nat)(d f:Stil.CC)(w:World)(j:op=29)(A:b<w.heap.size)(k:Jg w b o d)(i:Jg w b (o+3) f)(q:-9223372036854775808<=d.n)(u:d.n<=9223372036854775807)(E:-9223372036854775808<=f.n)(K:f.n<=9223372036854775807):
  Calls prog 64 #[.agg #[AB op,AE (some (AK b o)) 2 cap]] w (AN w (.bool (Oh d.kind d.n d.p 8 8 && Oh f.kind f.n f.p 11 11 && decide (0<=f.n)))):=by
 obtain⟨z,m,s⟩:=k;obtain⟨x,t,I⟩:=i;have C:b<w.heap.size+1:=AQ
 have F:b<w.heap.size+1+1:=AQ
 have B:Stil.arity op=2:=by unfold Stil.arity;rw[if_neg AQ,if_neg AQ,if_pos AQ]
 have J:decide (op<21)=false:=by simp;omega
 have D:decide (37<op)=false:=by simp;omega
 subst j;all_goals
  go_enter func64,ntmps64
  go_wp2
  go_quiet (exact Calls.quiet_of_same (J3 _ _))
  go_wp2_with (first | (go_at_call 96;refine(GX _ _ _ _ _ _ BD BD).mono ?_;rintro e g ⟨rfl,c⟩;obtain⟨H,l⟩:=Ef c;have y:w.heap.size<g.heap.size:=CB A4 c.size;have G:w.heap.size+1<g.heap.size:=CB A4 c.size;have r:=CB A4 c.size))
  all_goals go_ret
  all_goals (refine⟨Ae ?_,Av⟩)
  all_goals go_light
  all_goals simp[*]
theorem qT (op:Int)(b o cap:Nat)(d f:Stil.CC)(w:World)(m:op=36)(C:b<w.heap.size)(r:Jg w b o d)(j:Jg w b (o+3) f)(u:-9223372036854775808<=d.n)(z:d.n<=9223372036854775807)(G:-9223372036854775808<=f.n)(K:f.n<=9223372036854775807):
  Calls prog 64 #[.agg #[AB op,AE (some (AK b o)) 2 cap]] w (AN w (.bool (Oh d.kind d.n d.p 10 10 && Je f.kind f.n f.p))):=by
 obtain⟨B,t,x⟩:=r;obtain⟨A,y,I⟩:=j;have E:b<w.heap.size+1:=AQ
 have H:b<w.heap.size+1+1:=AQ
 have D:Stil.arity op=2:=by unfold Stil.arity;rw[if_neg AQ,if_neg AQ,if_pos AQ]
 have J:decide (op<21)=false:=by simp;omega
 have F:decide (37<op)=false:=by simp;omega
 subst m;all_goals
  go_enter func64,ntmps64
  go_wp2
  go_quiet (exact Calls.quiet_of_same (J3 _ _))
  go_wp2_with (first | (go_at_call 96;refine(GX _ _ _ _ _ _ BD BD).mono ?_;rintro e g ⟨rfl,c⟩;obtain⟨s,i⟩:=Ef c;have l:w.heap.size<g.heap.size:=CB A4 c.size;have q:w.heap.size+1<g.heap.size:=CB A4 c.size;have k:=CB A4 c.size) | (go_at_call 97;refine(Ux _ _ _ _ BD BD).mono ?_;rintro e g ⟨rfl,c⟩;obtain⟨s,i⟩:=Ef c;have l:w.heap.size<g.heap.size:=CB A4 c.size;have q:w.heap.size+1<g.heap.size:=CB A4 c.size;have k:=CB A4 c.size))
  all_goals go_ret
  all_goals (refine⟨Ae ?_,Av⟩)
  all_goals go_light
  all_goals simp[*]
theorem pj (op:Int)(b o cap:Nat)(d f:Stil.CC)(w:World)(m:op=37)(C:b<w.heap.size)(r:Jg w b o d)(j:Jg w b (o+3) f)(u:-9223372036854775808<=d.n)(z:d.n<=9223372036854775807)(G:-9223372036854775808<=f.n)(K:f.n<=9223372036854775807):
  Calls prog 64 #[.agg #[AB op,AE (some (AK b o)) 2 cap]] w (AN w (.bool (Oh d.kind d.n d.p 9 9 && J6 f.kind f.n f.p))):=by
 obtain⟨B,t,x⟩:=r;obtain⟨A,y,I⟩:=j;have E:b<w.heap.size+1:=AQ
 have H:b<w.heap.size+1+1:=AQ
 have D:Stil.arity op=2:=by unfold Stil.arity;rw[if_neg AQ,if_neg AQ,if_pos AQ]
 have J:decide (op<21)=false:=by simp;omega
 have F:decide (37<op)=false:=by simp;omega
 subst m;all_goals
  go_enter func64,ntmps64
  go_wp2
  go_quiet (exact Calls.quiet_of_same (J3 _ _))
  go_wp2_with (first | (go_at_call 96;refine(GX _ _ _ _ _ _ BD BD).mono ?_;rintro e g ⟨rfl,c⟩;obtain⟨s,i⟩:=Ef c;have l:w.heap.size<g.heap.size:=CB A4 c.size;have q:w.heap.size+1<g.heap.size:=CB A4 c.size;have k:=CB A4 c.size) | (go_at_call 98;refine(Wq _ _ _ _ BD BD).mono ?_;rintro e g ⟨rfl,c⟩;obtain⟨s,i⟩:=Ef c;have l:w.heap.size<g.heap.size:=CB A4 c.size;have q:w.heap.size+1<g.heap.size:=CB A4 c.size;have k:=CB A4 c.size))
  all_goals go_ret
  all_goals (refine⟨Ae ?_,Av⟩)
  all_goals go_light
  all_goals simp[*]
theorem TI (op:Int)(b o cap:Nat)(d:Stil.CC)(r:List Stil.CC)(w:World)(u:30<=op/\op<=35)(f:Stil.arity op=(r.length:Int)+1)(t:b<w.heap.size)
  (c:∀i (h:i<(d::r).length),Jg w b (o+i*3) (d::r)[i]) (g:∀x∈d::r,x.fits):
  Calls prog 64 #[.agg #[AB op,AE (some (AK b o)) (r.length+1) cap]] w (AN w (.bool (FB op (d::r)))):=by
 obtain⟨s,j,l⟩:=c 0 AU;simp only[FG,EO,EP] at s j l;have y:r.length<=100:=by
  have:Stil.arity op<=3:=by unfold Stil.arity;split<;>(try split)<;>(try split)<;>omega
  omega
 have k:Hid (∀W,AO w W->∀i (h:i<(d::r).length),Jg W b (o+i*3) (d::r)[i]):=λW m i h=>(c i h).below m t
 have q:=AV g;have P:decide (op<21)=false:=by simp;omega
 have H:decide (37<op)=false:=by simp;omega
 have z:(op==21)=false/\(op==22)=false/\(op==23)=false/\(op==24)=false/\(op==25)=false/\(op==26)=false/\(op==27)=false/\(op==28)=false/\(op==29)=false/\(op==36)=false/\(op==37)=false:=by
  simp only[CS];omega
 obtain⟨C,B,F,K,M,E,N,A,I,O,J⟩:=z;have G:(((r.length:Int)+1) !=Stil.arity op)=false:=by rw[f];simp
 clear c g u f;go_enter func64,ntmps64
 go_wp2
 go_quiet (exact Calls.quiet_of_same (J3 _ _))
 go_wp2_with (first | (go_at_call 99;refine(mq op b o cap d r _ Ax y (k _ Av) q.out).mono ?_;rintro e D ⟨rfl,L⟩))
 go_ret;exact⟨rfl,Av⟩
theorem wP {op:Int}(h1:21<=op)(c:op<=37):(Stil.arity op=1/\(op=21\/op=22\/op=23\/op=25))\/(Stil.arity op=2/\(op=24\/op=26\/op=27\/op=28\/op=29\/op=30\/op=36\/op=37))\/(Stil.arity op=3/\31<=op/\op<=35):=by
 unfold Stil.arity;by_cases a:op=1\/op=2\/op=21\/op=22\/op=23\/op=25
 ·rw[if_pos a];left;exact⟨rfl,AQ⟩
 ·rw[if_neg a]
  by_cases b:31<=op/\op<=35
  ·rw[if_pos b];right;right;exact⟨rfl,b⟩
  ·rw[if_neg b,if_pos AQ];right;left;exact⟨rfl,AQ⟩
theorem Dk.cons {w:World}{d:Stil.CC}{r:List Stil.CC}(h:Dk w v (d::r)):∃b o cap,v=AE (some (AK b o)) (r.length+1) cap/\b<w.heap.size/\∀i (hi:i<(d::r).length),Jg w b (o+i*3) (d::r)[i]:=by
 obtain⟨a,cap,f,e⟩:=h;obtain⟨b,o,rfl,g,_⟩:=e 0 AU;refine⟨b,o,cap,f,g,λi hi=>?_⟩;obtain⟨k,l,c,_,j⟩:=e i hi;simp only[CZ,Addr.mk.injEq,E0] at c;obtain⟨rfl,rfl⟩:=c;exact j
theorem fR (op:Int)(v:Value)(q:List Stil.CC)(w:World)(s:Dk w v q)(m:∀d∈q,d.fits)(hl:q.length<=9223372036854775807):
  Calls prog 64 #[.agg #[AB op,v]] w (AN w (.bool (Gt op q))):=by
 by_cases h:op<21\/37<op\/(q.length:Int)≠Stil.arity op
 ·have e:Gt op q=false:=by unfold Gt;rw[if_pos h]
  obtain⟨a,cap,rfl,_⟩:=s;rw[e];exact uQ op a q.length cap w h hl
 ·have z:21<=op:=by omega
  have A:op<=37:=AQ
  have c:(q.length:Int)=Stil.arity op:=AQ
  rcases wP z A with⟨l,u⟩ | ⟨l,u⟩ | ⟨l,u⟩
  ·match q,s,m,h,c with
   | [],_,_,_,c=>rw[l] at c;simp at c
   | [d],s,m,h,c=>
    obtain⟨b,o,cap,rfl,k,hd⟩:=s.one;have i:=(m d AU).2.1;exact sF op b o cap d w z A l k hd i.1 i.2
   | d::f::r,_,_,_,c=>rw[l] at c;simp at c;omega
  ·match q,s,m,h,c with
   | [],_,_,_,c=>rw[l] at c;simp at c
   | [d],_,_,_,c=>rw[l] at c;simp at c
   | [d,f],s,m,h,c=>
    by_cases y:op=30
    ·obtain⟨b,o,cap,x,k,hd⟩:=s.cons
     have e:Gt op [d,f]=FB op [d,f]:=by
      unfold Gt;rw[if_neg h];simp[y]
     rw[e,x];exact TI op b o cap d [f] w AQ (by rw[l];rfl) k hd m
    ·obtain⟨b,o,cap,rfl,k,hd,t⟩:=s.two
     have i:=(m d AU).2.1;have j:=(m f AU).2.1;rcases u with rfl | rfl | rfl | rfl | rfl | rfl | rfl | rfl
     ·have e:Gt 24 [d,f]=(Oh d.kind d.n d.p 2 3 && Oh f.kind f.n f.p 5 5):=by unfold Gt;rw[if_neg h];rfl
      rw[e];exact po 24 b o cap d f w rfl k hd t i.1 i.2 j.1 j.2
     ·have e:Gt 26 [d,f]=(Oh d.kind d.n d.p 7 7 && Oh f.kind f.n f.p 11 11 && decide (0<=f.n)):=by unfold Gt;rw[if_neg h];rfl
      rw[e];exact U8 26 b o cap d f w AQ k hd t i.1 i.2 j.1 j.2
     ·have e:Gt 27 [d,f]=(Oh d.kind d.n d.p 7 7 && Oh f.kind f.n f.p 11 11 && decide (0<=f.n)):=by unfold Gt;rw[if_neg h];rfl
      rw[e];exact U8 27 b o cap d f w AQ k hd t i.1 i.2 j.1 j.2
     ·have e:Gt 28 [d,f]=(Oh d.kind d.n d.p 7 7 && Oh f.kind f.n f.p 11 11 && decide (0<=f.n)):=by unfold Gt;rw[if_neg h];rfl
      rw[e];exact U8 28 b o cap d f w AQ k hd t i.1 i.2 j.1 j.2
     ·have e:Gt 29 [d,f]=(Oh d.kind d.n d.p 8 8 && Oh f.kind f.n f.p 11 11 && decide (0<=f.n)):=by unfold Gt;rw[if_neg h];rfl
      rw[e];exact pu 29 b o cap d f w rfl k hd t i.1 i.2 j.1 j.2
     ·exact absurd rfl y
     ·have e:Gt 36 [d,f]=(Oh d.kind d.n d.p 10 10 && Je f.kind f.n f.p):=by unfold Gt;rw[if_neg h];rfl
      rw[e];exact qT 36 b o cap d f w rfl k hd t i.1 i.2 j.1 j.2
     ·have e:Gt 37 [d,f]=(Oh d.kind d.n d.p 9 9 && J6 f.kind f.n f.p):=by unfold Gt;rw[if_neg h];rfl
      rw[e];exact pj 37 b o cap d f w rfl k hd t i.1 i.2 j.1 j.2
   | d::f::g::r,_,_,_,c=>rw[l] at c;simp at c;omega
  ·match q,s,m,h,c with
   | [],_,_,_,c=>rw[l] at c;simp at c
   | [d],_,_,_,c=>rw[l] at c;simp at c
   | [d,f],_,_,_,c=>rw[l] at c;simp at c
   | d::f::g::r,s,m,h,c=>
    obtain⟨b,o,cap,x,k,hd⟩:=s.cons;have e:Gt op (d::f::g::r)=FB op (d::f::g::r):=by
     unfold Gt;rw[if_neg h]
    rw[e,x];exact TI op b o cap d (f::g::r) w AQ (by rw[<-c];simp) k hd m
