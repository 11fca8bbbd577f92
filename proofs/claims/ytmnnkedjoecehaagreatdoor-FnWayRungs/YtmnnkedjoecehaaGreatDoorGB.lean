import Derived.Test.YtmnnkedjoecehaaGreatDoorCI3
set_option linter.defProp false
set_option maxHeartbeats 4000000
set_option maxRecDepth 100000
namespace Go.RowKit
theorem AV {p:Prop}(h:p):Hid p:=h
end Go.RowKit
namespace Go.Proofs.YtmnnkedjoecehaaGreatDoor
open Tryz Stil Go.RowKit Go.Sort Go.BigFrame
variable {W a w':World}{n:Nat}{v:Value}
theorem Jy (op:Int)(w:World):
  Calls prog 77 #[AB op] w λe w'=>e=.returned (AB (Stil.arity op))/\w'=w:=by
 go_enter func77,ntmps77
 go_wp2
 all_goals go_ret
 all_goals (refine⟨Fj ?_,rfl⟩;go_light;simp only[ED,CS] at*;unfold Stil.arity;first | (simp[*];done) | (repeat (first | rw[if_pos AQ] | rw[if_neg AQ])))
theorem Hh (k n p a b:Int)(w:World)(f:-9223372036854775808<=n)(d:n<=9223372036854775807):
  Calls prog 102 #[.agg #[AB k,AB n,AB p],AB a,AB b] w (AN w (.bool (Ol k n p a b))):=by
 cases h:H9 k n p;all_goals
  go_enter func102,ntmps102
  go_wp2_with (go_at_call 137;refine(JX _ _ _ _ f d).mono ?_;rintro e w' ⟨rfl,c⟩;obtain⟨i,g⟩:=En c)
  all_goals go_ret
  all_goals (refine⟨Ae ?_,Uu BB⟩)
  all_goals go_light
  all_goals (rw[Ol,h,DY];clear h;simp[*])
def Bi {w:World}(h:AO w a)(o:Obj):AO w (a.alloc o):=h.alloc h.size o
def BR {a b:Nat}(h:a<b:=by first | with_reducible assumption | (simp;done) | (simp;omega)):a<b:=h
def A5 {w:World}{a:Addr}{v:Bool}(hb:Below n w W)(h1:a.block<n:=by simp)(h2:w.frozen? a=v:=by simp[go_sem]):W.frozen? a=v:=(hb.frozen h1).trans h2
def A0 {w:World}{a:Addr}{v:Option Value}(hb:Below n w W)(h1:a.block<n:=by simp)(h2:w.cell? a=v:=by simp[go_sem]):W.cell? a=v:=(hb.cell h1).trans h2
def Je {w:World}(h:AO w a)(n:Nat):AO w (a.drewN n):=below_drewN h n
def Lj {w:World}(h:AO w a):AO w a.drew:=h.drew
def Bh {w b:World}(h:AO w a)(k:AO a b):AO w b:=h.trans (k.mono h.size)
def Dq {w:World}{p:Addr}(b:w.heap.size<=p.block)(h:AO w a)(v:Value):AO w (a.setCell p v):=h.setCell b v
def G5 {w:World}(h:AO w a)(d:Nat)(os:Array Obj):AO w (grow (redrawn a d) os):=Bh h (below_regrown a d os)
def Ao {w:World}(h:Below n w W:=by(repeat (first | exact Below.refl _ _ | assumption | refine Bi ?_ _ | refine Je ?_ _ | refine Lj ?_ | refine G5 ?_ _ _ | refine Dq (CG _) ?_ _ | refine Bh ?_ (by assumption)))):Below n w W:=h
def AW {w:World}(h:Below n w W:=by(repeat (first | with_reducible exact Below.refl _ _ | with_reducible assumption | with_reducible refine Dq (by first | exact CG _ | (simp;done) | (simp;omega) | omega) ?_ _ | with_reducible refine Bi ?_ _ | with_reducible refine Je ?_ _ | with_reducible refine Lj ?_ | with_reducible refine G5 ?_ _ _ | with_reducible refine Bh ?_ (by assumption)))):Below n w W:=h
def eC {w:World}{b:Nat}(h:b<w.heap.size)(k:AO w a):b<a.heap.size:=CB h k.size
def Axz {w w1:World}{o:Obj}(b:Below ((w.alloc o).drewN n).heap.size ((w.alloc o).drewN n) w1):w.heap.size<w1.heap.size:=by have:=b.size;simp at this;omega
def Ju (w:World)(b o:Nat)(d:Stil.CC):Prop:=w.cell? ⟨b,o,none⟩=some (AB d.kind)/\w.cell? ⟨b,o+1,none⟩=some (AB d.n)/\w.cell? ⟨b,o+2,none⟩=some (AB d.p)
def Dj (w:World)(v:Value)(c:List Stil.CC):Prop:=∃a cap,v=AE a c.length cap/\∀i (h:i<c.length),∃b o,a=some ⟨b,o,none⟩/\b<w.heap.size/\Ju w b (o+i*3) c[i]
theorem Ju.below {w:World}{b o:Nat}{d:Stil.CC}(h:Ju w b o d)(c:AO w w')(e:b<w.heap.size):Ju w' b o d:=by
 unfold Ju at*;rw[c.cell (p:=(AK b o)) e,c.cell (p:=(AK b (o+1))) e,c.cell (p:=(AK b (o+2))) e];exact h
theorem Dj.below {w:World}{c:List Stil.CC}(h:Dj w v c)(d:AO w w'):Dj w' v c:=by
 obtain⟨a,cap,f,j⟩:=h;refine⟨a,cap,f,λi hi=>?_⟩;obtain⟨b,o,g,e,hd⟩:=j i hi;exact⟨b,o,g,CB e d.size,hd.below d e⟩
theorem Dj.one {w:World}{d:Stil.CC}(h:Dj w v [d]):∃b o cap,v=AE (some (AK b o)) 1 cap/\b<w.heap.size/\Ju w b o d:=by
 obtain⟨a,cap,c,e⟩:=h;obtain⟨b,o,rfl,f,hd⟩:=e 0 AU;exact⟨b,o,cap,c,f,hd⟩
theorem Dj.two {w:World}{d e:Stil.CC}(h:Dj w v [d,e]):∃b o cap,v=AE (some (AK b o)) 2 cap/\b<w.heap.size/\Ju w b o d/\Ju w b (o+3) e:=by
 obtain⟨a,cap,g,f⟩:=h;obtain⟨b,o,rfl,j,hd⟩:=f 0 AU;obtain⟨k,l,c,_,i⟩:=f 1 AU;simp only[C0,Addr.mk.injEq,FG] at c;obtain⟨rfl,rfl⟩:=c;exact⟨b,o,cap,g,j,hd,i⟩
theorem pN (op:Int)(a:Option Addr)(len cap:Nat)(w:World)(h:op<1\/10<op\/(len:Int)≠Stil.arity op)(_hl:len<=9223372036854775807):
  Calls prog 101 #[.agg #[AB op,AE a len cap]] w (AN w (.bool false)):=by
 by_cases c:op<1
 ·have f:decide (op<1)=true:=by simpa using c
  go_enter func101,ntmps101
  go_wp2
  go_quiet (exact Calls.quiet_of_same (Jy _ _))
  go_wp2
  go_ret;exact⟨rfl,below_drewN (Aa _ _) _⟩
 ·have f:decide (op<1)=false:=by simpa using c
  by_cases b:10<op
  ·have d:decide (10<op)=true:=by simpa using b
   go_enter func101,ntmps101
   go_wp2
   go_quiet (exact Calls.quiet_of_same (Jy _ _))
   go_wp2
   go_ret;exact⟨rfl,below_drewN (Aa _ _) _⟩
  ·have d:decide (10<op)=false:=by simpa using b
   have g:((len:Int) !=Stil.arity op)=true:=by rw[bne_iff_ne];omega
   clear h;go_enter func101,ntmps101
   go_wp2
   go_quiet (exact Calls.quiet_of_same (Jy _ _))
   go_wp2
   go_ret;exact⟨rfl,below_drewN (Aa _ _) _⟩
theorem pG (op:Int)(b o cap:Nat)(d:Stil.CC)(w:World)(h1:1<=op)(j:op<=2)(m:b<w.heap.size)(f:Ju w b o d)(c:-9223372036854775808<=d.n)(g:d.n<=9223372036854775807):
  Calls prog 101 #[.agg #[AB op,AE (some (AK b o)) 1 cap]] w (AN w (.bool d.isBit)):=by
 obtain⟨l,r,s⟩:=f;have t:decide (op<1)=false:=by simp;omega
 have k:decide (10<op)=false:=by simp;omega
 have q:Stil.arity op=1:=by unfold Stil.arity;rw[if_pos AQ]
 go_enter func101,ntmps101
 go_wp2
 go_quiet (exact Calls.quiet_of_same (Jy _ _))
 go_wp2_with (go_at_call 136;refine(Zk _ _ _ _ c g).mono ?_;rintro e w' ⟨rfl,i⟩)
 go_ret;exact⟨rfl,Ao⟩
theorem py (op:Int)(b o cap:Nat)(d f:Stil.CC)(w:World)(h1:3<=op)(z:op<=4)(r:b<w.heap.size)(s:Ju w b o d)(t:Ju w b (o+3) f)(g:-9223372036854775808<=d.n)(i:d.n<=9223372036854775807)(m:-9223372036854775808<=f.n)(j:f.n<=9223372036854775807):
  Calls prog 101 #[.agg #[AB op,AE (some (AK b o)) 2 cap]] w (AN w (.bool (d.isBit && f.ok && f.kind==5))):=by
 obtain⟨C,K,L⟩:=s;obtain⟨I,M,O⟩:=t;have A:b<w.heap.size+1:=AQ
 have N:decide (op<1)=false:=by simp;omega
 have B:decide (10<op)=false:=by simp;omega
 have E:Stil.arity op=2:=by unfold Stil.arity;rw[if_neg AQ,if_neg AQ,if_pos AQ]
 have F:decide (op<=2)=false:=by simp;omega
 unfold Stil.CC.isBit Stil.CC.ok;cases H:Ru d.kind d.n d.p
 ·go_enter func101,ntmps101
  go_wp2
  go_quiet (exact Calls.quiet_of_same (Jy _ _))
  go_wp2_with (go_at_call 136;refine(Zk _ _ _ _ g i).mono ?_;rintro e w' ⟨rfl,c⟩;obtain⟨l,q⟩:=En c)
  go_ret;exact⟨rfl,Ao⟩
 ·cases y:H9 f.kind f.n f.p
  ·go_enter func101,ntmps101
   go_wp2
   go_quiet (exact Calls.quiet_of_same (Jy _ _))
   go_wp2_with (first | (go_at_call 136;refine(Zk _ _ _ _ g i).mono ?_;rintro e w' ⟨rfl,c⟩;obtain⟨l,q⟩:=En c) | (go_at_call 137;refine(JX _ _ _ _ m j).mono ?_;rintro e u ⟨rfl,k⟩))
   go_ret;exact⟨Ae AU,Ao⟩
  ·go_enter func101,ntmps101
   go_wp2
   go_quiet (exact Calls.quiet_of_same (Jy _ _))
   go_wp2_with (first | (go_at_call 136;refine(Zk _ _ _ _ g i).mono ?_;rintro e w' ⟨rfl,c⟩;obtain⟨l,q⟩:=En c;have x:=Axz c;have D:=Nat.lt_trans r x) | (go_at_call 137;refine(JX _ _ _ _ m j).mono ?_;rintro e u ⟨rfl,k⟩;obtain⟨G,J⟩:=En k))
   go_ret;exact⟨Ae AU,Ao⟩
theorem pH (op:Int)(b o cap:Nat)(d f:Stil.CC)(w:World)(h1:5<=op)(r:op<=10)(y:b<w.heap.size)(k:Ju w b o d)(l:Ju w b (o+3) f)(C:-9223372036854775808<=d.n)(F:d.n<=9223372036854775807)(D:-9223372036854775808<=f.n)(x:f.n<=9223372036854775807):
  Calls prog 101 #[.agg #[AB op,AE (some (AK b o)) 2 cap]] w (AN w (.bool (d.isWhole && f.isWhole || d.isReal && f.isReal))):=by
 obtain⟨u,G,H⟩:=k;obtain⟨B,I,K⟩:=l;have s:b<w.heap.size+1:=AQ
 have J:decide (op<1)=false:=by simp;omega
 have t:decide (10<op)=false:=by simp;omega
 have z:Stil.arity op=2:=by unfold Stil.arity;rw[if_neg AQ,if_neg AQ,if_pos AQ]
 have A:decide (op<=2)=false:=by simp;omega
 have E:decide (op<=4)=false:=by simp;omega
 unfold Stil.CC.isWhole Stil.CC.isReal;go_enter func101,ntmps101
 go_wp2
 go_quiet (exact Calls.quiet_of_same (Jy _ _))
 go_wp2_with (first | (go_at_call 103;refine(U6 _ _ _ _ BB BB).mono ?_;rintro e g ⟨rfl,c⟩;obtain⟨m,q⟩:=En c;have j:w.heap.size<g.heap.size:=CB A4 c.size;have i:=CB A4 c.size) | (go_at_call 104;refine(Xf _ _ _ _ BB BB).mono ?_;rintro e g ⟨rfl,c⟩;obtain⟨m,q⟩:=En c;have j:w.heap.size<g.heap.size:=CB A4 c.size;have i:=CB A4 c.size))
 all_goals go_ret
 all_goals (refine⟨Ae ?_,Ao⟩)
 all_goals go_light
 all_goals simp[*]
theorem uK (op:Int)(v:Value)(i:List Stil.CC)(w:World)(j:Dj w v i)(k:∀d∈i,d.fits)(hl:i.length<=9223372036854775807):
  Calls prog 101 #[.agg #[AB op,v]] w (AN w (.bool (Dw op i))):=by
 have c:∀(h:op<1\/10<op\/(i.length:Int)≠Stil.arity op),Dw op i=false->Calls prog 101 #[.agg #[AB op,v]] w (AN w (.bool (Dw op i))):=by
  intro h x;obtain⟨a,cap,rfl,_⟩:=j;rw[x];exact pN op a i.length cap w h hl
 by_cases h1:op<1\/10<op
 ·exact c AQ (by unfold Dw;rw[if_pos h1])
 ·by_cases l:op<=2
  ·have ha:Stil.arity op=1:=by unfold Stil.arity;rw[if_pos AQ]
   match i,j,k,hl,c with
   | [],_,_,_,c=>exact c yEj yEf
   | [d],j,k,_,_=>
    obtain⟨b,o,cap,rfl,q,hd⟩:=j.one;have:=(k d AU).2.1
    have e:Dw op [d]=d.isBit:=by unfold Dw;rw[if_neg h1];simp[l]
    rw[e];exact pG op b o cap d w AQ l q hd this.1 this.2
   | [d,f],_,_,_,c=>exact c yEj (by unfold Dw;rw[if_neg h1];simp[l])
   | d::f::g::r,_,_,_,c=>exact c (by right;right;simp[ha];omega) yEf
  ·have ha:Stil.arity op=2:=by unfold Stil.arity;rw[if_neg AQ,if_neg AQ,if_pos AQ]
   match i,j,k,hl,c with
   | [],_,_,_,c=>exact c yEj yEf
   | [d],_,_,_,c=>exact c yEj (by unfold Dw;rw[if_neg h1];simp[l])
   | [d,f],j,k,_,_=>
    obtain⟨b,o,cap,rfl,q,hd,u⟩:=j.two;have s:=(k d AU).2.1;have m:=(k f AU).2.1;by_cases t:op<=4
    ·have e:Dw op [d,f]=(d.isBit && f.ok && f.kind==5):=by unfold Dw;rw[if_neg h1];simp[l,t]
     rw[e];exact py op b o cap d f w AQ t q hd u s.1 s.2 m.1 m.2
    ·have e:Dw op [d,f]=(d.isWhole && f.isWhole || d.isReal && f.isReal):=by unfold Dw;rw[if_neg h1];simp[l,t]
     rw[e];exact pH op b o cap d f w AQ AQ q hd u s.1 s.2 m.1 m.2
   | d::f::g::r,_,_,_,c=>exact c (by right;right;simp[ha];omega) yEf
theorem m9 (op:Int)(b o cap:Nat)(d:Stil.CC)(r:List Stil.CC)(w:World)(L:b<w.heap.size)(hl:r.length<=100)
  (z:∀i (h:i<(d::r).length),Ju w b (o+i*3) (d::r)[i]) (A:∀x∈d::r,x.fits):
  Calls prog 105 #[.agg #[AB op,AE (some (AK b o)) (r.length+1) cap]] w (AN w (.bool (FM op (d::r)))):=by
 have Z:b<w.heap.size+1:=AQ
 obtain⟨C,J,S⟩:=z 0 AU;simp only[FQ,ER,EO] at C J S;obtain⟨Q,R⟩:=(A d AU).2.1;cases N:Ol d.kind d.n d.p 9 10
 ·have u:Hid (FM op (d::r)=false):=by show _=_;simp only[FM,Stil.CC.kindIs,N];rfl
  clear z A;go_enter func105,ntmps105
  go_wp2_with (first | (go_at_call 102;refine(Hh _ _ _ _ _ _ Q R).mono ?_;rintro e E ⟨rfl,hb⟩;obtain⟨l,m⟩:=En hb;have j:w.heap.size<E.heap.size:=CB A4 hb.size;have g:=CB A4 hb.size))
  go_ret;exact⟨Ae (by rw[u.out]),Ao⟩
 ·cases U:d.kind==9
  ·have u:Hid (FM op (d::r)=(Ov false r && (op !=35))):=by show _=_;simp only[FM,Stil.CC.kindIs,N,U];simp
   have P:=AV z;have O:=AV A;clear z A;go_enter func105,ntmps105
   go_wp2_with (first | (go_at_call 102;refine(Hh _ _ _ _ _ _ Q R).mono ?_;rintro e E ⟨rfl,hb⟩;obtain⟨l,m⟩:=En hb;have j:w.heap.size<E.heap.size:=CB A4 hb.size;have g:=CB A4 hb.size))
   clear l m j g;go_loopw [4] (λi wr=>∃k:Nat,k<=r.length/\i=AB ((k:Int)+1)/\Ov false r=Ov false (r.drop k)/\Below (w.heap.size+1) (w.alloc (.cells #[AB op,AE (some (AK b o)) (r.length+1) cap] 46)) wr) (λi _=>r.length+1 - (intOf i).toNat)
   case atStart=>exact⟨0,AQ,rfl,rfl,hb.mono AU⟩
   case round=>
    clear hb;obtain⟨k,X,rfl,F,c⟩:=hrel;have s:=AV F;clear F C J S;have T:w.heap.size<wr.heap.size:=by have:=c.size;simp at this;omega
    have C:wr.cell? (AL w 0)=some (AB op):=A0 c;have V:wr.frozen? (AL w 0)=false:=A5 c;have J:wr.cell? (AL w 1)=some (AE (some (AK b o)) (r.length+1) cap):=A0 c;have Y:wr.frozen? (AL w 1)=false:=A5 c;have D:=(Aa _ _).trans (c.mono AQ);have g:=eC L D;by_cases M:k<r.length
    ·obtain⟨K,B,I⟩:=(P (k+1) Ax).below D L
     simp only[K5] at K B I;obtain⟨t,q⟩:=(O r[k] AU).2.1;have f:Hid (Ov false (r.drop k)=(J4 r[k].kind r[k].n r[k].p && Ov false (r.drop (k+1)))):=by
      show(r.drop k).all _=_
      rw[F3 M,List.all_cons];rfl
     obtain⟨x,H⟩:=AA (r[k])
     rw[<-H] at K B I t q f;clear H;cases G:J4 x.kind x.n x.p
     ·rw[G] at f
      go_wp2_with (first | (go_at_call 104;refine(Xf _ _ _ _ t q).mono ?_;rintro e y ⟨rfl,hb⟩;obtain⟨l,m⟩:=En hb;have j:w.heap.size<y.heap.size:=CB A4 hb.size;have g:=CB A4 hb.size))
      go_ret;exact⟨Ae (by rw[u.out,s.out,f.out];rfl),Ao⟩
     ·rw[G] at f
      go_wp2_with (first | (go_at_call 104;refine(Xf _ _ _ _ t q).mono ?_;rintro e y ⟨rfl,hb⟩;obtain⟨l,m⟩:=En hb;have j:w.heap.size<y.heap.size:=CB A4 hb.size;have g:=CB A4 hb.size))
      refine⟨⟨k+1,AQ,by go_num,by rw[s.out,f.out];rfl,?_⟩,by simp[intOf];omega⟩;exact c.trans (hb.mono T)
    ·go_wp2
     go_ret;exact⟨Ae (by rw[u.out,s.out,F4 AQ];rfl),Ao⟩
  ·have u:Hid (FM op (d::r)=Ov true r):=by show _=_;simp only[FM,Stil.CC.kindIs,N,U];simp
   have P:=AV z;have O:=AV A;clear z A;go_enter func105,ntmps105
   go_wp2_with (first | (go_at_call 102;refine(Hh _ _ _ _ _ _ Q R).mono ?_;rintro e E ⟨rfl,hb⟩;obtain⟨l,m⟩:=En hb;have j:w.heap.size<E.heap.size:=CB A4 hb.size;have g:=CB A4 hb.size))
   clear l m j g;go_loopw [4] (λi wr=>∃k:Nat,k<=r.length/\i=AB ((k:Int)+1)/\Ov true r=Ov true (r.drop k)/\Below (w.heap.size+1) (w.alloc (.cells #[AB op,AE (some (AK b o)) (r.length+1) cap] 46)) wr) (λi _=>r.length+1 - (intOf i).toNat)
   case atStart=>exact⟨0,AQ,rfl,rfl,hb.mono AU⟩
   case round=>
    clear hb;obtain⟨k,X,rfl,F,c⟩:=hrel;have s:=AV F;clear F C J S;have T:w.heap.size<wr.heap.size:=by have:=c.size;simp at this;omega
    have C:wr.cell? (AL w 0)=some (AB op):=A0 c;have V:wr.frozen? (AL w 0)=false:=A5 c;have J:wr.cell? (AL w 1)=some (AE (some (AK b o)) (r.length+1) cap):=A0 c;have Y:wr.frozen? (AL w 1)=false:=A5 c;have D:=(Aa _ _).trans (c.mono AQ);have g:=eC L D;by_cases M:k<r.length
    ·obtain⟨K,B,I⟩:=(P (k+1) Ax).below D L
     simp only[K5] at K B I;obtain⟨t,q⟩:=(O r[k] AU).2.1;have f:Hid (Ov true (r.drop k)=(Ja r[k].kind r[k].n r[k].p && Ov true (r.drop (k+1)))):=by
      show(r.drop k).all _=_
      rw[F3 M,List.all_cons];rfl
     obtain⟨x,H⟩:=AA (r[k])
     rw[<-H] at K B I t q f;clear H;cases G:Ja x.kind x.n x.p
     ·rw[G] at f
      go_wp2_with (first | (go_at_call 103;refine(U6 _ _ _ _ t q).mono ?_;rintro e y ⟨rfl,hb⟩;obtain⟨l,m⟩:=En hb;have j:w.heap.size<y.heap.size:=CB A4 hb.size;have g:=CB A4 hb.size))
      go_ret;exact⟨Ae (by rw[u.out,s.out,f.out];rfl),Ao⟩
     ·rw[G] at f
      go_wp2_with (first | (go_at_call 103;refine(U6 _ _ _ _ t q).mono ?_;rintro e y ⟨rfl,hb⟩;obtain⟨l,m⟩:=En hb;have j:w.heap.size<y.heap.size:=CB A4 hb.size;have g:=CB A4 hb.size))
      refine⟨⟨k+1,AQ,by go_num,by rw[s.out,f.out];rfl,?_⟩,by simp[intOf];omega⟩;exact c.trans (hb.mono T)
    ·go_wp2
     go_ret;exact⟨Ae (by rw[u.out,s.out,F4 AQ];rfl),Ao⟩
theorem tM (op:Int)(a:Option Addr)(len cap:Nat)(w:World)(h:op<21\/37<op\/(len:Int)≠Stil.arity op)(_hl:len<=9223372036854775807):
  Calls prog 65 #[.agg #[AB op,AE a len cap]] w (AN w (.bool false)):=by
 by_cases c:op<21
 ·have f:decide (op<21)=true:=by simpa using c
  go_enter func65,ntmps65
  go_wp2
  go_quiet (exact Calls.quiet_of_same (Jy _ _))
  go_wp2
  go_ret;exact⟨rfl,below_drewN (Aa _ _) _⟩
 ·have f:decide (op<21)=false:=by simpa using c
  by_cases b:37<op
  ·have d:decide (37<op)=true:=by simpa using b
   go_enter func65,ntmps65
   go_wp2
   go_quiet (exact Calls.quiet_of_same (Jy _ _))
   go_wp2
   go_ret;exact⟨rfl,below_drewN (Aa _ _) _⟩
  ·have d:decide (37<op)=false:=by simpa using b
   have g:((len:Int) !=Stil.arity op)=true:=by rw[bne_iff_ne];omega
   clear h;go_enter func65,ntmps65
   go_wp2
   go_quiet (exact Calls.quiet_of_same (Jy _ _))
   go_wp2
   go_ret;exact⟨rfl,below_drewN (Aa _ _) _⟩
theorem sA (op:Int)(b o cap:Nat)(d:Stil.CC)(w:World)(h1:21<=op)(i:op<=37)(c:Stil.arity op=1)(u:b<w.heap.size)(j:Ju w b o d)(z:-9223372036854775808<=d.n)(A:d.n<=9223372036854775807):
  Calls prog 65 #[.agg #[AB op,AE (some (AK b o)) 1 cap]] w (AN w (.bool (Gj op [d]))):=by
 obtain⟨r,B,C⟩:=j;have m:b<w.heap.size+1:=AQ
 have E:b<w.heap.size+1+1:=AQ
 have k:op=21\/op=22\/op=23\/op=25:=by
  unfold Stil.arity at c;split at c
  ·omega
  ·split at c
   ·omega
   ·split at c<;>omega
 have l:Hid (Gj op [d]=if op=21 then Ol d.kind d.n d.p 2 3 else if op=22 then Ol d.kind d.n d.p 2 3 || Ol d.kind d.n d.p 4 4 else if op=23 then Ol d.kind d.n d.p 2 3 || Ol d.kind d.n d.p 4 7 || Ol d.kind d.n d.p 8 8 else Ol d.kind d.n d.p 4 4):=by
  show _=_
  unfold Gj;rw[if_neg (by simp[c];omega)];rfl
 have F:decide (op<21)=false:=by simp;omega
 have q:decide (37<op)=false:=by simp;omega
 clear h1 i;rcases k with rfl | rfl | rfl | rfl
 all_goals
  go_enter func65,ntmps65
  go_wp2
  go_quiet (exact Calls.quiet_of_same (Jy _ _))
  go_wp2_with (first | (go_at_call 102;refine(Hh _ _ _ _ _ _ BB BB).mono ?_;rintro e g ⟨rfl,f⟩;obtain⟨y,D⟩:=En f;have t:w.heap.size<g.heap.size:=CB A4 f.size;have s:w.heap.size+1<g.heap.size:=CB A4 f.size;have x:=CB A4 f.size))
  all_goals go_ret
  all_goals (refine⟨Ae ?_,Ao⟩)
  all_goals rw[l.out]
  all_goals go_light
  all_goals simp[*]
theorem pQ (op:Int)(b o cap:Nat)(d f:Stil.CC)(w:World)(k:op=24)(u:b<w.heap.size)(i:Ju w b o d)(j:Ju w b (o+3) f)(B:-9223372036854775808<=d.n)(D:d.n<=9223372036854775807)(C:-9223372036854775808<=f.n)(t:f.n<=9223372036854775807):
  Calls prog 65 #[.agg #[AB op,AE (some (AK b o)) 2 cap]] w (AN w (.bool (Ol d.kind d.n d.p 2 3 && Ol f.kind f.n f.p 5 5))):=by
 obtain⟨q,E,F⟩:=i;obtain⟨y,H,K⟩:=j;have l:b<w.heap.size+1:=AQ
 have I:b<w.heap.size+1+1:=AQ
 have x:Stil.arity op=2:=by unfold Stil.arity;rw[if_neg AQ,if_neg AQ,if_pos AQ]
 have J:decide (op<21)=false:=by simp;omega
 have m:decide (37<op)=false:=by simp;omega
 subst k;all_goals
  go_enter func65,ntmps65
  go_wp2
  go_quiet (exact Calls.quiet_of_same (Jy _ _))
  go_wp2_with (first | (go_at_call 102;refine(Hh _ _ _ _ _ _ BB BB).mono ?_;rintro e g ⟨rfl,c⟩;obtain⟨A,G⟩:=En c;have s:w.heap.size<g.heap.size:=CB A4 c.size;have r:w.heap.size+1<g.heap.size:=CB A4 c.size;have z:=CB A4 c.size))
  all_goals go_ret
  all_goals (refine⟨Ae ?_,Ao⟩)
  all_goals go_light
  all_goals simp[*]
theorem Vl (op:Int)(b o cap:Nat)(d f:Stil.CC)(w:World)(k:op=26\/op=27\/op=28)(u:b<w.heap.size)(i:Ju w b o d)(j:Ju w b (o+3) f)(B:-9223372036854775808<=d.n)(D:d.n<=9223372036854775807)(C:-9223372036854775808<=f.n)(t:f.n<=9223372036854775807):
  Calls prog 65 #[.agg #[AB op,AE (some (AK b o)) 2 cap]] w (AN w (.bool (Ol d.kind d.n d.p 7 7 && Ol f.kind f.n f.p 11 11 && decide (0<=f.n)))):=by
 obtain⟨q,E,F⟩:=i;obtain⟨y,H,K⟩:=j;have l:b<w.heap.size+1:=AQ
 have I:b<w.heap.size+1+1:=AQ
 have x:Stil.arity op=2:=by unfold Stil.arity;rw[if_neg AQ,if_neg AQ,if_pos AQ]
 have J:decide (op<21)=false:=by simp;omega
 have m:decide (37<op)=false:=by simp;omega
 rcases k with rfl | rfl | rfl
 all_goals
  go_enter func65,ntmps65
  go_wp2
  go_quiet (exact Calls.quiet_of_same (Jy _ _))
  go_wp2_with (first | (go_at_call 102;refine(Hh _ _ _ _ _ _ BB BB).mono ?_;rintro e g ⟨rfl,c⟩;obtain⟨A,G⟩:=En c;have s:w.heap.size<g.heap.size:=CB A4 c.size;have r:w.heap.size+1<g.heap.size:=CB A4 c.size;have z:=CB A4 c.size))
  all_goals go_ret
  all_goals (refine⟨Ae ?_,Ao⟩)
  all_goals go_light
  all_goals simp[*]
theorem pR (op:Int)(b o cap:Nat)(d f:Stil.CC)(w:World)(k:op=29)(u:b<w.heap.size)(i:Ju w b o d)(j:Ju w b (o+3) f)(B:-9223372036854775808<=d.n)(D:d.n<=9223372036854775807)(C:-9223372036854775808<=f.n)(t:f.n<=9223372036854775807):
  Calls prog 65 #[.agg #[AB op,AE (some (AK b o)) 2 cap]] w (AN w (.bool (Ol d.kind d.n d.p 8 8 && Ol f.kind f.n f.p 11 11 && decide (0<=f.n)))):=by
 obtain⟨q,E,F⟩:=i;obtain⟨y,H,K⟩:=j;have l:b<w.heap.size+1:=AQ
 have I:b<w.heap.size+1+1:=AQ
 have x:Stil.arity op=2:=by unfold Stil.arity;rw[if_neg AQ,if_neg AQ,if_pos AQ]
 have J:decide (op<21)=false:=by simp;omega
 have m:decide (37<op)=false:=by simp;omega
 subst k;all_goals
  go_enter func65,ntmps65
  go_wp2
  go_quiet (exact Calls.quiet_of_same (Jy _ _))
  go_wp2_with (first | (go_at_call 102;refine(Hh _ _ _ _ _ _ BB BB).mono ?_;rintro e g ⟨rfl,c⟩;obtain⟨A,G⟩:=En c;have s:w.heap.size<g.heap.size:=CB A4 c.size;have r:w.heap.size+1<g.heap.size:=CB A4 c.size;have z:=CB A4 c.size))
  all_goals go_ret
  all_goals (refine⟨Ae ?_,Ao⟩)
  all_goals go_light
  all_goals simp[*]
theorem rB (op:Int)(b o cap:Nat)(d f:Stil.CC)(w:World)(s:op=36)(z:b<w.heap.size)(k:Ju w b o d)(l:Ju w b (o+3) f)(C:-9223372036854775808<=d.n)(E:d.n<=9223372036854775807)(D:-9223372036854775808<=f.n)(y:f.n<=9223372036854775807):
  Calls prog 65 #[.agg #[AB op,AE (some (AK b o)) 2 cap]] w (AN w (.bool (Ol d.kind d.n d.p 10 10 && Ja f.kind f.n f.p))):=by
 obtain⟨x,F,G⟩:=k;obtain⟨B,H,K⟩:=l;have t:b<w.heap.size+1:=AQ
 have I:b<w.heap.size+1+1:=AQ
 have A:Stil.arity op=2:=by unfold Stil.arity;rw[if_neg AQ,if_neg AQ,if_pos AQ]
 have J:decide (op<21)=false:=by simp;omega
 have u:decide (37<op)=false:=by simp;omega
 subst s;all_goals
  go_enter func65,ntmps65
  go_wp2
  go_quiet (exact Calls.quiet_of_same (Jy _ _))
  go_wp2_with (first | (go_at_call 102;refine(Hh _ _ _ _ _ _ BB BB).mono ?_;rintro e g ⟨rfl,c⟩;obtain⟨q,r⟩:=En c;have j:w.heap.size<g.heap.size:=CB A4 c.size;have i:w.heap.size+1<g.heap.size:=CB A4 c.size;have m:=CB A4 c.size) | (go_at_call 103;refine(U6 _ _ _ _ BB BB).mono ?_;rintro e g ⟨rfl,c⟩;obtain⟨q,r⟩:=En c;have j:w.heap.size<g.heap.size:=CB A4 c.size;have i:w.heap.size+1<g.heap.size:=CB A4 c.size;have m:=CB A4 c.size))
  all_goals go_ret
  all_goals (refine⟨Ae ?_,Ao⟩)
  all_goals go_light
  all_goals simp[*]
theorem pP (op:Int)(b o cap:Nat)(d f:Stil.CC)(w:World)(s:op=37)(z:b<w.heap.size)(k:Ju w b o d)(l:Ju w b (o+3) f)(C:-9223372036854775808<=d.n)(E:d.n<=9223372036854775807)(D:-9223372036854775808<=f.n)(y:f.n<=9223372036854775807):
  Calls prog 65 #[.agg #[AB op,AE (some (AK b o)) 2 cap]] w (AN w (.bool (Ol d.kind d.n d.p 9 9 && J4 f.kind f.n f.p))):=by
 obtain⟨x,F,G⟩:=k;obtain⟨B,H,K⟩:=l;have t:b<w.heap.size+1:=AQ
 have I:b<w.heap.size+1+1:=AQ
 have A:Stil.arity op=2:=by unfold Stil.arity;rw[if_neg AQ,if_neg AQ,if_pos AQ]
 have J:decide (op<21)=false:=by simp;omega
 have u:decide (37<op)=false:=by simp;omega
 subst s;all_goals
  go_enter func65,ntmps65
  go_wp2
  go_quiet (exact Calls.quiet_of_same (Jy _ _))
  go_wp2_with (first | (go_at_call 102;refine(Hh _ _ _ _ _ _ BB BB).mono ?_;rintro e g ⟨rfl,c⟩;obtain⟨q,r⟩:=En c;have j:w.heap.size<g.heap.size:=CB A4 c.size;have i:w.heap.size+1<g.heap.size:=CB A4 c.size;have m:=CB A4 c.size) | (go_at_call 104;refine(Xf _ _ _ _ BB BB).mono ?_;rintro e g ⟨rfl,c⟩;obtain⟨q,r⟩:=En c;have j:w.heap.size<g.heap.size:=CB A4 c.size;have i:w.heap.size+1<g.heap.size:=CB A4 c.size;have m:=CB A4 c.size))
  all_goals go_ret
  all_goals (refine⟨Ae ?_,Ao⟩)
  all_goals go_light
  all_goals simp[*]
theorem TW (op:Int)(b o cap:Nat)(d:Stil.CC)(r:List Stil.CC)(w:World)(z:30<=op/\op<=35)(f:Stil.arity op=(r.length:Int)+1)(l:b<w.heap.size)
  (c:∀i (h:i<(d::r).length),Ju w b (o+i*3) (d::r)[i]) (g:∀x∈d::r,x.fits):
  Calls prog 65 #[.agg #[AB op,AE (some (AK b o)) (r.length+1) cap]] w (AN w (.bool (FM op (d::r)))):=by
 obtain⟨j,t,u⟩:=c 0 AU;simp only[FQ,ER,EO] at j t u;have y:r.length<=100:=by
  have:Stil.arity op<=3:=by unfold Stil.arity;split<;>(try split)<;>(try split)<;>omega
  omega
 have s:Hid (∀W,AO w W->∀i (h:i<(d::r).length),Ju W b (o+i*3) (d::r)[i]):=λW m i h=>(c i h).below m l
 have q:=AV g;have P:decide (op<21)=false:=by simp;omega
 have C:decide (37<op)=false:=by simp;omega
 have k:(op==21)=false/\(op==22)=false/\(op==23)=false/\(op==24)=false/\(op==25)=false/\(op==26)=false/\(op==27)=false/\(op==28)=false/\(op==29)=false/\(op==36)=false/\(op==37)=false:=by
  simp only[CS];omega
 obtain⟨E,A,O,D,K,M,F,N,G,I,L⟩:=k;have H:(((r.length:Int)+1) !=Stil.arity op)=false:=by rw[f];simp
 clear c g z f;go_enter func65,ntmps65
 go_wp2
 go_quiet (exact Calls.quiet_of_same (Jy _ _))
 go_wp2_with (first | (go_at_call 105;refine(m9 op b o cap d r _ Ax y (s _ Ao) q.out).mono ?_;rintro e J ⟨rfl,B⟩))
 go_ret;exact⟨rfl,Ao⟩
theorem wA {op:Int}(h1:21<=op)(c:op<=37):(Stil.arity op=1/\(op=21\/op=22\/op=23\/op=25))\/(Stil.arity op=2/\(op=24\/op=26\/op=27\/op=28\/op=29\/op=30\/op=36\/op=37))\/(Stil.arity op=3/\31<=op/\op<=35):=by
 unfold Stil.arity;by_cases a:op=1\/op=2\/op=21\/op=22\/op=23\/op=25
 ·rw[if_pos a];left;exact⟨rfl,AQ⟩
 ·rw[if_neg a]
  by_cases b:31<=op/\op<=35
  ·rw[if_pos b];right;right;exact⟨rfl,b⟩
  ·rw[if_neg b,if_pos AQ];right;left;exact⟨rfl,AQ⟩
theorem Dj.cons {w:World}{d:Stil.CC}{r:List Stil.CC}(h:Dj w v (d::r)):∃b o cap,v=AE (some (AK b o)) (r.length+1) cap/\b<w.heap.size/\∀i (hi:i<(d::r).length),Ju w b (o+i*3) (d::r)[i]:=by
 obtain⟨a,cap,f,c⟩:=h;obtain⟨b,o,rfl,j,_⟩:=c 0 AU;refine⟨b,o,cap,f,j,λi hi=>?_⟩;obtain⟨k,l,e,_,g⟩:=c i hi;simp only[C0,Addr.mk.injEq,FG] at e;obtain⟨rfl,rfl⟩:=e;exact g
theorem gw (op:Int)(v:Value)(q:List Stil.CC)(w:World)(m:Dj w v q)(s:∀d∈q,d.fits)(hl:q.length<=9223372036854775807):
  Calls prog 65 #[.agg #[AB op,v]] w (AN w (.bool (Gj op q))):=by
 by_cases h:op<21\/37<op\/(q.length:Int)≠Stil.arity op
 ·have e:Gj op q=false:=by unfold Gj;rw[if_pos h]
  obtain⟨a,cap,rfl,_⟩:=m;rw[e];exact tM op a q.length cap w h hl
 ·have z:21<=op:=by omega
  have y:op<=37:=AQ
  have c:(q.length:Int)=Stil.arity op:=AQ
  rcases wA z y with⟨l,x⟩ | ⟨l,x⟩ | ⟨l,x⟩
  ·match q,m,s,h,c with
   | [],_,_,_,c=>rw[l] at c;simp at c
   | [d],m,s,h,c=>
    obtain⟨b,o,cap,rfl,k,hd⟩:=m.one;have i:=(s d AU).2.1;exact sA op b o cap d w z y l k hd i.1 i.2
   | d::f::r,_,_,_,c=>rw[l] at c;simp at c;omega
  ·match q,m,s,h,c with
   | [],_,_,_,c=>rw[l] at c;simp at c
   | [d],_,_,_,c=>rw[l] at c;simp at c
   | [d,f],m,s,h,c=>
    by_cases A:op=30
    ·obtain⟨b,o,cap,u,k,hd⟩:=m.cons
     have e:Gj op [d,f]=FM op [d,f]:=by
      unfold Gj;rw[if_neg h];simp[A]
     rw[e,u];exact TW op b o cap d [f] w AQ (by rw[l];rfl) k hd s
    ·obtain⟨b,o,cap,rfl,k,hd,t⟩:=m.two
     have i:=(s d AU).2.1;have j:=(s f AU).2.1;rcases x with rfl | rfl | rfl | rfl | rfl | rfl | rfl | rfl
     ·have e:Gj 24 [d,f]=(Ol d.kind d.n d.p 2 3 && Ol f.kind f.n f.p 5 5):=by unfold Gj;rw[if_neg h];rfl
      rw[e];exact pQ 24 b o cap d f w rfl k hd t i.1 i.2 j.1 j.2
     ·have e:Gj 26 [d,f]=(Ol d.kind d.n d.p 7 7 && Ol f.kind f.n f.p 11 11 && decide (0<=f.n)):=by unfold Gj;rw[if_neg h];rfl
      rw[e];exact Vl 26 b o cap d f w AQ k hd t i.1 i.2 j.1 j.2
     ·have e:Gj 27 [d,f]=(Ol d.kind d.n d.p 7 7 && Ol f.kind f.n f.p 11 11 && decide (0<=f.n)):=by unfold Gj;rw[if_neg h];rfl
      rw[e];exact Vl 27 b o cap d f w AQ k hd t i.1 i.2 j.1 j.2
     ·have e:Gj 28 [d,f]=(Ol d.kind d.n d.p 7 7 && Ol f.kind f.n f.p 11 11 && decide (0<=f.n)):=by unfold Gj;rw[if_neg h];rfl
      rw[e];exact Vl 28 b o cap d f w AQ k hd t i.1 i.2 j.1 j.2
     ·have e:Gj 29 [d,f]=(Ol d.kind d.n d.p 8 8 && Ol f.kind f.n f.p 11 11 && decide (0<=f.n)):=by unfold Gj;rw[if_neg h];rfl
      rw[e];exact pR 29 b o cap d f w rfl k hd t i.1 i.2 j.1 j.2
     ·exact absurd rfl A
     ·have e:Gj 36 [d,f]=(Ol d.kind d.n d.p 10 10 && Ja f.kind f.n f.p):=by unfold Gj;rw[if_neg h];rfl
      rw[e];exact rB 36 b o cap d f w rfl k hd t i.1 i.2 j.1 j.2
     ·have e:Gj 37 [d,f]=(Ol d.kind d.n d.p 9 9 && J4 f.kind f.n f.p):=by unfold Gj;rw[if_neg h];rfl
      rw[e];exact pP 37 b o cap d f w rfl k hd t i.1 i.2 j.1 j.2
   | d::f::g::r,_,_,_,c=>rw[l] at c;simp at c;omega
  ·match q,m,s,h,c with
   | [],_,_,_,c=>rw[l] at c;simp at c
   | [d],_,_,_,c=>rw[l] at c;simp at c
   | [d,f],_,_,_,c=>rw[l] at c;simp at c
   | d::f::g::r,m,s,h,c=>
    obtain⟨b,o,cap,u,k,hd⟩:=m.cons;have e:Gj op (d::f::g::r)=FM op (d::f::g::r):=by
     unfold Gj;rw[if_neg h]
    rw[e,u];exact TW op b o cap d (f::g::r) w AQ (by rw[<-c];simp) k hd s
