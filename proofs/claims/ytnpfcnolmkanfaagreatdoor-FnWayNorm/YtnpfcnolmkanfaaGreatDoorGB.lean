import Derived.Test.YtnpfcnolmkanfaaGreatDoorA00
import Derived.Below
import Derived.Test.YtnpfcnolmkanfaaGreatDoorCI3
namespace Go.RowKit
theorem hid {p:Prop}(h:p):Hid p:=h
end Go.RowKit
set_option maxHeartbeats 4000000
set_option maxRecDepth 100000
namespace Go.Proofs.YtnpfcnolmkanfaaGreatDoor
open Tryz
open Stil
open Go.RowKit Go.Sort Go.BigFrame
variable {W a w':World}{n:Nat}{v:Value}
theorem Jf (op:Int)(w:World):
  Calls prog 57 #[.int .i64 op] w λe w'=>e=.returned (.int .i64 (Stil.arity op))/\w'=w:=by
 go_enter func57,ntmps57
 go_wp2
 all_goals go_ret
 all_goals (refine⟨Gz ?_,rfl⟩;go_light;simp only[A8h,A64] at*;unfold Stil.arity;first | (simp[*];done) | (repeat (first | rw[if_pos omz] | rw[if_neg omz])))
theorem Aae (k n p a b:Int)(w:World)(d:-9223372036854775808<=n)(f:n<=9223372036854775807):
  Calls prog 58 #[.agg #[.int .i64 k, .int .i64 n, .int .i64 p], .int .i64 a, .int .i64 b] w λe w'=>e=.returned (.bool (Ic k n p a b))/\Below w.heap.size w w':=by
 cases h:Hg k n p;all_goals
  go_enter func58,ntmps58
  go_wp2_with (go_at_call 90;refine(Abj _ _ _ _ d f).mono ?_;rintro e w' ⟨rfl,c⟩;obtain⟨i,g⟩:=D7 c)
  all_goals go_ret
  all_goals (refine⟨Ap ?_,Ry aqz⟩)
  all_goals go_light
  all_goals (rw[Ic,h,A7e];clear h;simp[*])
theorem Cc {w:World}(h:Below w.heap.size w a)(o:Obj):Below w.heap.size w (a.alloc o):=h.alloc h.size o
theorem ltA {a b:Nat}(h:a<b:=by first | with_reducible assumption | (simp;done) | (simp;omega)):a<b:=h
theorem frA {w:World}{a:Addr}{v:Bool}(hb:Below n w W)(h1:a.block<n:=by simp)(h2:w.frozen? a=v:=by simp[go_sem]):W.frozen? a=v:=(hb.frozen h1).trans h2
theorem clA {w:World}{a:Addr}{v:Option Value}(hb:Below n w W)(h1:a.block<n:=by simp)(h2:w.cell? a=v:=by simp[go_sem]):W.cell? a=v:=(hb.cell h1).trans h2
theorem Je {w:World}(h:Below w.heap.size w a)(n:Nat):Below w.heap.size w (a.drewN n):=below_drewN h n
theorem L6 {w:World}(h:Below w.heap.size w a):Below w.heap.size w a.drew:=h.drew
theorem Du {w b:World}(h:Below w.heap.size w a)(k:Below a.heap.size a b):Below w.heap.size w b:=h.trans (k.mono h.size)
theorem Di {w:World}{p:Addr}(b:w.heap.size<=p.block)(h:Below w.heap.size w a)(v:Value):Below w.heap.size w (a.setCell p v):=h.setCell b v
theorem Hw {w:World}(h:Below w.heap.size w a)(d:Nat)(os:Array Obj):Below w.heap.size w (grow (redrawn a d) os):=Du h (below_regrown a d os)
theorem blB {w:World}(h:Below n w W:=by(repeat (first | exact Below.refl _ _ | assumption | refine Cc ?_ _ | refine Je ?_ _ | refine L6 ?_ | refine Hw ?_ _ _ | refine Di (A57 _) ?_ _ | refine Du ?_ (by assumption)))):Below n w W:=h
theorem blA {w:World}(h:Below n w W:=by(repeat (first | with_reducible exact Below.refl _ _ | with_reducible assumption | with_reducible refine Di (by first | exact A57 _ | (simp;done) | (simp;omega) | omega) ?_ _ | with_reducible refine Cc ?_ _ | with_reducible refine Je ?_ _ | with_reducible refine L6 ?_ | with_reducible refine Hw ?_ _ _ | with_reducible refine Du ?_ (by assumption)))):Below n w W:=h
theorem Apr {w:World}{b:Nat}(h:b<w.heap.size)(k:Below w.heap.size w a):b<a.heap.size:=A51 h k.size
theorem Avd {w w1:World}{o:Obj}(b:Below ((w.alloc o).drewN n).heap.size ((w.alloc o).drewN n) w1):w.heap.size<w1.heap.size:=by have:=b.size;simp at this;omega
def Jc (w:World)(b o:Nat)(d:Stil.Dev):Prop:=w.cell? ⟨b,o,none⟩=some (.int .i64 d.kind)/\w.cell? ⟨b,o+1,none⟩=some (.int .i64 d.n)/\w.cell? ⟨b,o+2,none⟩=some (.int .i64 d.p)
def Dh (w:World)(v:Value)(c:List Stil.Dev):Prop:=∃a cap,v=.slice a c.length cap/\∀i (h:i<c.length),∃b o,a=some ⟨b,o,none⟩/\b<w.heap.size/\Jc w b (o+i*3) c[i]
theorem Jc.below {w:World}{b o:Nat}{d:Stil.Dev}(h:Jc w b o d)(e:Below w.heap.size w w')(c:b<w.heap.size):Jc w' b o d:=by
 unfold Jc at*;rw[e.cell (p:=⟨b,o,none⟩) c,e.cell (p:=⟨b,o+1,none⟩) c,e.cell (p:=⟨b,o+2,none⟩) c];exact h
theorem Dh.below {w:World}{e:List Stil.Dev}(h:Dh w v e)(c:Below w.heap.size w w'):Dh w' v e:=by
 obtain⟨a,cap,f,j⟩:=h;refine⟨a,cap,f,λi hi=>?_⟩;obtain⟨b,o,g,d,hd⟩:=j i hi;exact⟨b,o,g,A51 d c.size,hd.below c d⟩
theorem Dh.one {w:World}{d:Stil.Dev}(h:Dh w v [d]):∃b o cap,v=.slice (some ⟨b,o,none⟩) 1 cap/\b<w.heap.size/\Jc w b o d:=by
 obtain⟨a,cap,c,e⟩:=h;obtain⟨b,o,rfl,f,hd⟩:=e 0 spz;exact⟨b,o,cap,c,f,hd⟩
theorem Dh.two {w:World}{d e:Stil.Dev}(h:Dh w v [d,e]):∃b o cap,v=.slice (some ⟨b,o,none⟩) 2 cap/\b<w.heap.size/\Jc w b o d/\Jc w b (o+3) e:=by
 obtain⟨a,cap,g,f⟩:=h;obtain⟨b,o,rfl,i,hd⟩:=f 0 spz;obtain⟨k,l,c,_,j⟩:=f 1 spz;simp only[A65,Addr.mk.injEq,A8u] at c;obtain⟨rfl,rfl⟩:=c;exact⟨b,o,cap,g,i,hd,j⟩
theorem Afv (op:Int)(a:Option Addr)(len cap:Nat)(w:World)(h:op<1\/10<op\/(len:Int)≠Stil.arity op)(_hl:len<=9223372036854775807):
  Calls prog 56 #[.agg #[.int .i64 op, .slice a len cap]] w λe w'=>e=.returned (.bool false)/\Below w.heap.size w w':=by
 by_cases b:op<1
 ·have f:decide (op<1)=true:=by simpa using b
  go_enter func56,ntmps56
  go_wp2
  go_quiet (exact Calls.quiet_of_same (Jf _ _))
  go_wp2
  go_ret;exact⟨rfl,below_drewN (Aa _ _) _⟩
 ·have f:decide (op<1)=false:=by simpa using b
  by_cases c:10<op
  ·have d:decide (10<op)=true:=by simpa using c
   go_enter func56,ntmps56
   go_wp2
   go_quiet (exact Calls.quiet_of_same (Jf _ _))
   go_wp2
   go_ret;exact⟨rfl,below_drewN (Aa _ _) _⟩
  ·have d:decide (10<op)=false:=by simpa using c
   have g:((len:Int) !=Stil.arity op)=true:=by rw[bne_iff_ne];omega
   clear h;go_enter func56,ntmps56
   go_wp2
   go_quiet (exact Calls.quiet_of_same (Jf _ _))
   go_wp2
   go_ret;exact⟨rfl,below_drewN (Aa _ _) _⟩
theorem Adw (op:Int)(b o cap:Nat)(d:Stil.Dev)(w:World)(h1:1<=op)(t:op<=2)(q:b<w.heap.size)(f:Jc w b o d)(g:-9223372036854775808<=d.n)(c:d.n<=9223372036854775807):
  Calls prog 56 #[.agg #[.int .i64 op, .slice (some ⟨b,o,none⟩) 1 cap]] w λe w'=>e=.returned (.bool d.isBit)/\Below w.heap.size w w':=by
 obtain⟨l,m,i⟩:=f;have s:decide (op<1)=false:=by simp;omega
 have j:decide (10<op)=false:=by simp;omega
 have r:Stil.arity op=1:=by unfold Stil.arity;rw[if_pos omz]
 go_enter func56,ntmps56
 go_wp2
 go_quiet (exact Calls.quiet_of_same (Jf _ _))
 go_wp2_with (go_at_call 89;refine(Xz _ _ _ _ g c).mono ?_;rintro e w' ⟨rfl,k⟩)
 go_ret;exact⟨rfl,blB⟩
theorem Afu (op:Int)(b o cap:Nat)(d f:Stil.Dev)(w:World)(h1:3<=op)(O:op<=4)(u:b<w.heap.size)(t:Jc w b o d)(s:Jc w b (o+3) f)(i:-9223372036854775808<=d.n)(g:d.n<=9223372036854775807)(j:-9223372036854775808<=f.n)(l:f.n<=9223372036854775807):
  Calls prog 56 #[.agg #[.int .i64 op, .slice (some ⟨b,o,none⟩) 2 cap]] w λe w'=>e=.returned (.bool (d.isBit && f.ok && f.kind==5))/\Below w.heap.size w w':=by
 obtain⟨E,J,z⟩:=t;obtain⟨K,I,C⟩:=s;have y:b<w.heap.size+1:=omz
 have N:decide (op<1)=false:=by simp;omega
 have D:decide (10<op)=false:=by simp;omega
 have M:Stil.arity op=2:=by unfold Stil.arity;rw[if_neg omz,if_neg omz,if_pos omz]
 have G:decide (op<=2)=false:=by simp;omega
 unfold Stil.Dev.isBit Stil.Dev.ok;cases A:Qa d.kind d.n d.p
 ·go_enter func56,ntmps56
  go_wp2
  go_quiet (exact Calls.quiet_of_same (Jf _ _))
  go_wp2_with (go_at_call 89;refine(Xz _ _ _ _ i g).mono ?_;rintro e w' ⟨rfl,c⟩;obtain⟨k,m⟩:=D7 c)
  go_ret;exact⟨rfl,blB⟩
 ·cases L:Hg f.kind f.n f.p
  ·go_enter func56,ntmps56
   go_wp2
   go_quiet (exact Calls.quiet_of_same (Jf _ _))
   go_wp2_with (first | (go_at_call 89;refine(Xz _ _ _ _ i g).mono ?_;rintro e w' ⟨rfl,c⟩;obtain⟨k,m⟩:=D7 c) | (go_at_call 90;refine(Abj _ _ _ _ j l).mono ?_;rintro e r ⟨rfl,q⟩))
   go_ret;exact⟨Ap spz,blB⟩
  ·go_enter func56,ntmps56
   go_wp2
   go_quiet (exact Calls.quiet_of_same (Jf _ _))
   go_wp2_with (first | (go_at_call 89;refine(Xz _ _ _ _ i g).mono ?_;rintro e w' ⟨rfl,c⟩;obtain⟨k,m⟩:=D7 c;have x:=Avd c;have F:=Nat.lt_trans u x) | (go_at_call 90;refine(Abj _ _ _ _ j l).mono ?_;rintro e r ⟨rfl,q⟩;obtain⟨H,B⟩:=D7 q))
   go_ret;exact⟨Ap spz,blB⟩
theorem Adx (op:Int)(b o cap:Nat)(d f:Stil.Dev)(w:World)(h1:5<=op)(K:op<=10)(z:b<w.heap.size)(j:Jc w b o d)(i:Jc w b (o+3) f)(F:-9223372036854775808<=d.n)(u:d.n<=9223372036854775807)(B:-9223372036854775808<=f.n)(D:f.n<=9223372036854775807):
  Calls prog 56 #[.agg #[.int .i64 op, .slice (some ⟨b,o,none⟩) 2 cap]] w λe w'=>e=.returned (.bool (d.isWhole && f.isWhole || d.isReal && f.isReal))/\Below w.heap.size w w':=by
 obtain⟨A,G,t⟩:=j;obtain⟨H,E,x⟩:=i;have s:b<w.heap.size+1:=omz
 have J:decide (op<1)=false:=by simp;omega
 have y:decide (10<op)=false:=by simp;omega
 have I:Stil.arity op=2:=by unfold Stil.arity;rw[if_neg omz,if_neg omz,if_pos omz]
 have C:decide (op<=2)=false:=by simp;omega
 have r:decide (op<=4)=false:=by simp;omega
 unfold Stil.Dev.isWhole Stil.Dev.isReal;go_enter func56,ntmps56
 go_wp2
 go_quiet (exact Calls.quiet_of_same (Jf _ _))
 go_wp2_with (first | (go_at_call 59;refine(Sz _ _ _ _ aqz aqz).mono ?_;rintro e g ⟨rfl,c⟩;obtain⟨l,m⟩:=D7 c;have q:w.heap.size<g.heap.size:=A51 yAa c.size;have k:=A51 yAa c.size) | (go_at_call 60;refine(U6 _ _ _ _ aqz aqz).mono ?_;rintro e g ⟨rfl,c⟩;obtain⟨l,m⟩:=D7 c;have q:w.heap.size<g.heap.size:=A51 yAa c.size;have k:=A51 yAa c.size))
 all_goals go_ret
 all_goals (refine⟨Ap ?_,blB⟩)
 all_goals go_light
 all_goals simp[*]
theorem Am7 (op:Int)(v:Value)(i:List Stil.Dev)(w:World)(j:Dh w v i)(k:∀d∈i,d.fits)(hl:i.length<=9223372036854775807):
  Calls prog 56 #[.agg #[.int .i64 op,v]] w λe w'=>e=.returned (.bool (Ae op i))/\Below w.heap.size w w':=by
 have c:∀(h:op<1\/10<op\/(i.length:Int)≠Stil.arity op),Ae op i=false->Calls prog 56 #[.agg #[.int .i64 op,v]] w λe w'=>e=.returned (.bool (Ae op i))/\Below w.heap.size w w':=by
  intro h x;obtain⟨a,cap,rfl,_⟩:=j;rw[x];exact Afv op a i.length cap w h hl
 by_cases h1:op<1\/10<op
 ·exact c omz (by unfold Ae;rw[if_pos h1])
 ·by_cases l:op<=2
  ·have ha:Stil.arity op=1:=by unfold Stil.arity;rw[if_pos omz]
   match i,j,k,hl,c with
   | [],_,_,_,c=>exact c yEd yDj
   | [d],j,k,_,_=>
    obtain⟨b,o,cap,rfl,q,hd⟩:=j.one;have:=(k d spz).2.1
    have e:Ae op [d]=d.isBit:=by unfold Ae;rw[if_neg h1];simp[l]
    rw[e];exact Adw op b o cap d w omz l q hd this.1 this.2
   | [d,f],_,_,_,c=>exact c yEd (by unfold Ae;rw[if_neg h1];simp[l])
   | d::f::g::r,_,_,_,c=>exact c (by right;right;simp[ha];omega) yDj
  ·have ha:Stil.arity op=2:=by unfold Stil.arity;rw[if_neg omz,if_neg omz,if_pos omz]
   match i,j,k,hl,c with
   | [],_,_,_,c=>exact c yEd yDj
   | [d],_,_,_,c=>exact c yEd (by unfold Ae;rw[if_neg h1];simp[l])
   | [d,f],j,k,_,_=>
    obtain⟨b,o,cap,rfl,q,hd,u⟩:=j.two;have m:=(k d spz).2.1;have s:=(k f spz).2.1;by_cases t:op<=4
    ·have e:Ae op [d,f]=(d.isBit && f.ok && f.kind==5):=by unfold Ae;rw[if_neg h1];simp[l,t]
     rw[e];exact Afu op b o cap d f w omz t q hd u m.1 m.2 s.1 s.2
    ·have e:Ae op [d,f]=(d.isWhole && f.isWhole || d.isReal && f.isReal):=by unfold Ae;rw[if_neg h1];simp[l,t]
     rw[e];exact Adx op b o cap d f w omz omz q hd u m.1 m.2 s.1 s.2
   | d::f::g::r,_,_,_,c=>exact c (by right;right;simp[ha];omega) yDj
theorem A4n (op:Int)(b o cap:Nat)(d:Stil.Dev)(r:List Stil.Dev)(w:World)(L:b<w.heap.size)(hl:r.length<=100)
  (z:∀i (h:i<(d::r).length),Jc w b (o+i*3) (d::r)[i]) (A:∀x∈d::r,x.fits):
  Calls prog 61 #[.agg #[.int .i64 op, .slice (some ⟨b,o,none⟩) (r.length+1) cap]] w λe w'=>e=.returned (.bool (Wi op (d::r)))/\Below w.heap.size w w':=by
 have Z:b<w.heap.size+1:=omz
 obtain⟨D,I,P⟩:=z 0 spz;simp only[A8a,A75,A7a] at D I P;obtain⟨T,N⟩:=(A d spz).2.1;cases O:Ic d.kind d.n d.p 9 10
 ·have s:Hid (Wi op (d::r)=false):=by show _=_;simp only[Wi,Stil.Dev.kindIs,O];rfl
  clear z A;go_enter func61,ntmps61
  go_wp2_with (first | (go_at_call 58;refine(Aae _ _ _ _ _ _ T N).mono ?_;rintro e J ⟨rfl,hb⟩;obtain⟨j,l⟩:=D7 hb;have m:w.heap.size<J.heap.size:=A51 yAa hb.size;have g:=A51 yAa hb.size))
  go_ret;exact⟨Ap (by rw[s.out]),blB⟩
 ·cases U:d.kind==9
  ·have s:Hid (Wi op (d::r)=(I7 false r && (op !=35))):=by show _=_;simp only[Wi,Stil.Dev.kindIs,O,U];simp
   have M:=hid z;have Q:=hid A;clear z A;go_enter func61,ntmps61
   go_wp2_with (first | (go_at_call 58;refine(Aae _ _ _ _ _ _ T N).mono ?_;rintro e J ⟨rfl,hb⟩;obtain⟨j,l⟩:=D7 hb;have m:w.heap.size<J.heap.size:=A51 yAa hb.size;have g:=A51 yAa hb.size))
   clear j l m g;go_loopw [4] (λi wr=>∃k:Nat,k<=r.length/\i=.int .i64 ((k:Int)+1)/\I7 false r=I7 false (r.drop k)/\Below (w.heap.size+1) (w.alloc (.cells #[.int .i64 op, .slice (some ⟨b,o,none⟩) (r.length+1) cap] 40)) wr) (λi _=>r.length+1 - (intOf i).toNat)
   case atStart=>exact⟨0,omz,rfl,rfl,hb.mono spz⟩
   case round=>
    clear hb;obtain⟨k,V,rfl,H,c⟩:=hrel;have u:=hid H;clear H D I P;have R:w.heap.size<wr.heap.size:=by have:=c.size;simp at this;omega
    have D:wr.cell? ⟨w.heap.size,0,none⟩=some (.int .i64 op):=clA c;have Y:wr.frozen? ⟨w.heap.size,0,none⟩=false:=frA c;have I:wr.cell? ⟨w.heap.size,1,none⟩=some (.slice (some ⟨b,o,none⟩) (r.length+1) cap):=clA c;have X:wr.frozen? ⟨w.heap.size,1,none⟩=false:=frA c;have E:=(Aa _ _).trans (c.mono omz);have g:=Apr L E;by_cases S:k<r.length
    ·obtain⟨F,K,G⟩:=(M (k+1) yAd).below E L
     simp only[A8z] at F K G;obtain⟨t,y⟩:=(Q r[k] spz).2.1;have f:Hid (I7 false (r.drop k)=(Jh r[k].kind r[k].n r[k].p && I7 false (r.drop (k+1)))):=by
      show(r.drop k).all _=_
      rw[A7p S,List.all_cons];rfl
     obtain⟨x,B⟩:∃x,x=r[k]:=⟨_,rfl⟩
     rw[<-B] at F K G t y f;clear B;cases C:Jh x.kind x.n x.p
     ·rw[C] at f
      go_wp2_with (first | (go_at_call 60;refine(U6 _ _ _ _ t y).mono ?_;rintro e q ⟨rfl,hb⟩;obtain⟨j,l⟩:=D7 hb;have m:w.heap.size<q.heap.size:=A51 yAa hb.size;have g:=A51 yAa hb.size))
      go_ret;exact⟨Ap (by rw[s.out,u.out,f.out];rfl),blB⟩
     ·rw[C] at f
      go_wp2_with (first | (go_at_call 60;refine(U6 _ _ _ _ t y).mono ?_;rintro e q ⟨rfl,hb⟩;obtain⟨j,l⟩:=D7 hb;have m:w.heap.size<q.heap.size:=A51 yAa hb.size;have g:=A51 yAa hb.size))
      refine⟨⟨k+1,omz,by go_num,by rw[u.out,f.out];rfl,?_⟩,by simp[intOf];omega⟩;exact c.trans (hb.mono R)
    ·go_wp2
     go_ret;exact⟨Ap (by rw[s.out,u.out,A7s omz];rfl),blB⟩
  ·have s:Hid (Wi op (d::r)=I7 true r):=by show _=_;simp only[Wi,Stil.Dev.kindIs,O,U];simp
   have M:=hid z;have Q:=hid A;clear z A;go_enter func61,ntmps61
   go_wp2_with (first | (go_at_call 58;refine(Aae _ _ _ _ _ _ T N).mono ?_;rintro e J ⟨rfl,hb⟩;obtain⟨j,l⟩:=D7 hb;have m:w.heap.size<J.heap.size:=A51 yAa hb.size;have g:=A51 yAa hb.size))
   clear j l m g;go_loopw [4] (λi wr=>∃k:Nat,k<=r.length/\i=.int .i64 ((k:Int)+1)/\I7 true r=I7 true (r.drop k)/\Below (w.heap.size+1) (w.alloc (.cells #[.int .i64 op, .slice (some ⟨b,o,none⟩) (r.length+1) cap] 40)) wr) (λi _=>r.length+1 - (intOf i).toNat)
   case atStart=>exact⟨0,omz,rfl,rfl,hb.mono spz⟩
   case round=>
    clear hb;obtain⟨k,V,rfl,H,c⟩:=hrel;have u:=hid H;clear H D I P;have R:w.heap.size<wr.heap.size:=by have:=c.size;simp at this;omega
    have D:wr.cell? ⟨w.heap.size,0,none⟩=some (.int .i64 op):=clA c;have Y:wr.frozen? ⟨w.heap.size,0,none⟩=false:=frA c;have I:wr.cell? ⟨w.heap.size,1,none⟩=some (.slice (some ⟨b,o,none⟩) (r.length+1) cap):=clA c;have X:wr.frozen? ⟨w.heap.size,1,none⟩=false:=frA c;have E:=(Aa _ _).trans (c.mono omz);have g:=Apr L E;by_cases S:k<r.length
    ·obtain⟨F,K,G⟩:=(M (k+1) yAd).below E L
     simp only[A8z] at F K G;obtain⟨t,y⟩:=(Q r[k] spz).2.1;have f:Hid (I7 true (r.drop k)=(Ii r[k].kind r[k].n r[k].p && I7 true (r.drop (k+1)))):=by
      show(r.drop k).all _=_
      rw[A7p S,List.all_cons];rfl
     obtain⟨x,B⟩:∃x,x=r[k]:=⟨_,rfl⟩
     rw[<-B] at F K G t y f;clear B;cases C:Ii x.kind x.n x.p
     ·rw[C] at f
      go_wp2_with (first | (go_at_call 59;refine(Sz _ _ _ _ t y).mono ?_;rintro e q ⟨rfl,hb⟩;obtain⟨j,l⟩:=D7 hb;have m:w.heap.size<q.heap.size:=A51 yAa hb.size;have g:=A51 yAa hb.size))
      go_ret;exact⟨Ap (by rw[s.out,u.out,f.out];rfl),blB⟩
     ·rw[C] at f
      go_wp2_with (first | (go_at_call 59;refine(Sz _ _ _ _ t y).mono ?_;rintro e q ⟨rfl,hb⟩;obtain⟨j,l⟩:=D7 hb;have m:w.heap.size<q.heap.size:=A51 yAa hb.size;have g:=A51 yAa hb.size))
      refine⟨⟨k+1,omz,by go_num,by rw[u.out,f.out];rfl,?_⟩,by simp[intOf];omega⟩;exact c.trans (hb.mono R)
    ·go_wp2
     go_ret;exact⟨Ap (by rw[s.out,u.out,A7s omz];rfl),blB⟩
theorem Am8 (op:Int)(a:Option Addr)(len cap:Nat)(w:World)(h:op<21\/37<op\/(len:Int)≠Stil.arity op)(_hl:len<=9223372036854775807):
  Calls prog 35 #[.agg #[.int .i64 op, .slice a len cap]] w λe w'=>e=.returned (.bool false)/\Below w.heap.size w w':=by
 by_cases b:op<21
 ·have f:decide (op<21)=true:=by simpa using b
  go_enter func35,ntmps35
  go_wp2
  go_quiet (exact Calls.quiet_of_same (Jf _ _))
  go_wp2
  go_ret;exact⟨rfl,below_drewN (Aa _ _) _⟩
 ·have f:decide (op<21)=false:=by simpa using b
  by_cases c:37<op
  ·have d:decide (37<op)=true:=by simpa using c
   go_enter func35,ntmps35
   go_wp2
   go_quiet (exact Calls.quiet_of_same (Jf _ _))
   go_wp2
   go_ret;exact⟨rfl,below_drewN (Aa _ _) _⟩
  ·have d:decide (37<op)=false:=by simpa using c
   have g:((len:Int) !=Stil.arity op)=true:=by rw[bne_iff_ne];omega
   clear h;go_enter func35,ntmps35
   go_wp2
   go_quiet (exact Calls.quiet_of_same (Jf _ _))
   go_wp2
   go_ret;exact⟨rfl,below_drewN (Aa _ _) _⟩
theorem Aj3 (op:Int)(b o cap:Nat)(d:Stil.Dev)(w:World)(h1:21<=op)(l:op<=37)(c:Stil.arity op=1)(t:b<w.heap.size)(j:Jc w b o d)(C:-9223372036854775808<=d.n)(r:d.n<=9223372036854775807):
  Calls prog 35 #[.agg #[.int .i64 op, .slice (some ⟨b,o,none⟩) 1 cap]] w λe w'=>e=.returned (.bool (Ak op [d]))/\Below w.heap.size w w':=by
 obtain⟨u,D,q⟩:=j;have m:b<w.heap.size+1:=omz
 have z:b<w.heap.size+1+1:=omz
 have k:op=21\/op=22\/op=23\/op=25:=by
  unfold Stil.arity at c;split at c
  ·omega
  ·split at c
   ·omega
   ·split at c<;>omega
 have i:Hid (Ak op [d]=if op=21 then Ic d.kind d.n d.p 2 3 else if op=22 then Ic d.kind d.n d.p 2 3 || Ic d.kind d.n d.p 4 4 else if op=23 then Ic d.kind d.n d.p 2 3 || Ic d.kind d.n d.p 4 7 || Ic d.kind d.n d.p 8 8 else Ic d.kind d.n d.p 4 4):=by
  show _=_
  unfold Ak;rw[if_neg (by simp[c];omega)];rfl
 have F:decide (op<21)=false:=by simp;omega
 have s:decide (37<op)=false:=by simp;omega
 clear h1 l;rcases k with rfl | rfl | rfl | rfl
 all_goals
  go_enter func35,ntmps35
  go_wp2
  go_quiet (exact Calls.quiet_of_same (Jf _ _))
  go_wp2_with (first | (go_at_call 58;refine(Aae _ _ _ _ _ _ aqz aqz).mono ?_;rintro e g ⟨rfl,f⟩;obtain⟨y,A⟩:=D7 f;have B:w.heap.size<g.heap.size:=A51 yAa f.size;have x:w.heap.size+1<g.heap.size:=A51 yAa f.size;have E:=A51 yAa f.size))
  all_goals go_ret
  all_goals (refine⟨Ap ?_,blB⟩)
  all_goals rw[i.out]
  all_goals go_light
  all_goals simp[*]
theorem Afx (op:Int)(b o cap:Nat)(d f:Stil.Dev)(w:World)(k:op=24)(t:b<w.heap.size)(j:Jc w b o d)(i:Jc w b (o+3) f)(F:-9223372036854775808<=d.n)(q:d.n<=9223372036854775807)(y:-9223372036854775808<=f.n)(A:f.n<=9223372036854775807):
  Calls prog 35 #[.agg #[.int .i64 op, .slice (some ⟨b,o,none⟩) 2 cap]] w λe w'=>e=.returned (.bool (Ic d.kind d.n d.p 2 3 && Ic f.kind f.n f.p 5 5))/\Below w.heap.size w w':=by
 obtain⟨u,G,m⟩:=j;obtain⟨H,D,r⟩:=i;have l:b<w.heap.size+1:=omz
 have B:b<w.heap.size+1+1:=omz
 have J:Stil.arity op=2:=by unfold Stil.arity;rw[if_neg omz,if_neg omz,if_pos omz]
 have K:decide (op<21)=false:=by simp;omega
 have s:decide (37<op)=false:=by simp;omega
 subst k;all_goals
  go_enter func35,ntmps35
  go_wp2
  go_quiet (exact Calls.quiet_of_same (Jf _ _))
  go_wp2_with (first | (go_at_call 58;refine(Aae _ _ _ _ _ _ aqz aqz).mono ?_;rintro e g ⟨rfl,c⟩;obtain⟨z,C⟩:=D7 c;have E:w.heap.size<g.heap.size:=A51 yAa c.size;have x:w.heap.size+1<g.heap.size:=A51 yAa c.size;have I:=A51 yAa c.size))
  all_goals go_ret
  all_goals (refine⟨Ap ?_,blB⟩)
  all_goals go_light
  all_goals simp[*]
theorem Tt (op:Int)(b o cap:Nat)(d f:Stil.Dev)(w:World)(k:op=26\/op=27\/op=28)(t:b<w.heap.size)(j:Jc w b o d)(i:Jc w b (o+3) f)(F:-9223372036854775808<=d.n)(q:d.n<=9223372036854775807)(y:-9223372036854775808<=f.n)(A:f.n<=9223372036854775807):
  Calls prog 35 #[.agg #[.int .i64 op, .slice (some ⟨b,o,none⟩) 2 cap]] w λe w'=>e=.returned (.bool (Ic d.kind d.n d.p 7 7 && Ic f.kind f.n f.p 11 11 && decide (0<=f.n)))/\Below w.heap.size w w':=by
 obtain⟨u,G,m⟩:=j;obtain⟨H,D,r⟩:=i;have l:b<w.heap.size+1:=omz
 have B:b<w.heap.size+1+1:=omz
 have J:Stil.arity op=2:=by unfold Stil.arity;rw[if_neg omz,if_neg omz,if_pos omz]
 have K:decide (op<21)=false:=by simp;omega
 have s:decide (37<op)=false:=by simp;omega
 rcases k with rfl | rfl | rfl
 all_goals
  go_enter func35,ntmps35
  go_wp2
  go_quiet (exact Calls.quiet_of_same (Jf _ _))
  go_wp2_with (first | (go_at_call 58;refine(Aae _ _ _ _ _ _ aqz aqz).mono ?_;rintro e g ⟨rfl,c⟩;obtain⟨z,C⟩:=D7 c;have E:w.heap.size<g.heap.size:=A51 yAa c.size;have x:w.heap.size+1<g.heap.size:=A51 yAa c.size;have I:=A51 yAa c.size))
  all_goals go_ret
  all_goals (refine⟨Ap ?_,blB⟩)
  all_goals go_light
  all_goals simp[*]
theorem Afy (op:Int)(b o cap:Nat)(d f:Stil.Dev)(w:World)(k:op=29)(t:b<w.heap.size)(j:Jc w b o d)(i:Jc w b (o+3) f)(F:-9223372036854775808<=d.n)(q:d.n<=9223372036854775807)(y:-9223372036854775808<=f.n)(A:f.n<=9223372036854775807):
  Calls prog 35 #[.agg #[.int .i64 op, .slice (some ⟨b,o,none⟩) 2 cap]] w λe w'=>e=.returned (.bool (Ic d.kind d.n d.p 8 8 && Ic f.kind f.n f.p 11 11 && decide (0<=f.n)))/\Below w.heap.size w w':=by
 obtain⟨u,G,m⟩:=j;obtain⟨H,D,r⟩:=i;have l:b<w.heap.size+1:=omz
 have B:b<w.heap.size+1+1:=omz
 have J:Stil.arity op=2:=by unfold Stil.arity;rw[if_neg omz,if_neg omz,if_pos omz]
 have K:decide (op<21)=false:=by simp;omega
 have s:decide (37<op)=false:=by simp;omega
 subst k;all_goals
  go_enter func35,ntmps35
  go_wp2
  go_quiet (exact Calls.quiet_of_same (Jf _ _))
  go_wp2_with (first | (go_at_call 58;refine(Aae _ _ _ _ _ _ aqz aqz).mono ?_;rintro e g ⟨rfl,c⟩;obtain⟨z,C⟩:=D7 c;have E:w.heap.size<g.heap.size:=A51 yAa c.size;have x:w.heap.size+1<g.heap.size:=A51 yAa c.size;have I:=A51 yAa c.size))
  all_goals go_ret
  all_goals (refine⟨Ap ?_,blB⟩)
  all_goals go_light
  all_goals simp[*]
theorem Ah0 (op:Int)(b o cap:Nat)(d f:Stil.Dev)(w:World)(q:op=36)(A:b<w.heap.size)(j:Jc w b o d)(i:Jc w b (o+3) f)(G:-9223372036854775808<=d.n)(x:d.n<=9223372036854775807)(C:-9223372036854775808<=f.n)(D:f.n<=9223372036854775807):
  Calls prog 35 #[.agg #[.int .i64 op, .slice (some ⟨b,o,none⟩) 2 cap]] w λe w'=>e=.returned (.bool (Ic d.kind d.n d.p 10 10 && Ii f.kind f.n f.p))/\Below w.heap.size w w':=by
 obtain⟨B,H,u⟩:=j;obtain⟨I,F,y⟩:=i;have t:b<w.heap.size+1:=omz
 have E:b<w.heap.size+1+1:=omz
 have J:Stil.arity op=2:=by unfold Stil.arity;rw[if_neg omz,if_neg omz,if_pos omz]
 have K:decide (op<21)=false:=by simp;omega
 have z:decide (37<op)=false:=by simp;omega
 subst q;all_goals
  go_enter func35,ntmps35
  go_wp2
  go_quiet (exact Calls.quiet_of_same (Jf _ _))
  go_wp2_with (first | (go_at_call 58;refine(Aae _ _ _ _ _ _ aqz aqz).mono ?_;rintro e g ⟨rfl,c⟩;obtain⟨l,m⟩:=D7 c;have r:w.heap.size<g.heap.size:=A51 yAa c.size;have k:w.heap.size+1<g.heap.size:=A51 yAa c.size;have s:=A51 yAa c.size) | (go_at_call 59;refine(Sz _ _ _ _ aqz aqz).mono ?_;rintro e g ⟨rfl,c⟩;obtain⟨l,m⟩:=D7 c;have r:w.heap.size<g.heap.size:=A51 yAa c.size;have k:w.heap.size+1<g.heap.size:=A51 yAa c.size;have s:=A51 yAa c.size))
  all_goals go_ret
  all_goals (refine⟨Ap ?_,blB⟩)
  all_goals go_light
  all_goals simp[*]
theorem Afw (op:Int)(b o cap:Nat)(d f:Stil.Dev)(w:World)(q:op=37)(A:b<w.heap.size)(j:Jc w b o d)(i:Jc w b (o+3) f)(G:-9223372036854775808<=d.n)(x:d.n<=9223372036854775807)(C:-9223372036854775808<=f.n)(D:f.n<=9223372036854775807):
  Calls prog 35 #[.agg #[.int .i64 op, .slice (some ⟨b,o,none⟩) 2 cap]] w λe w'=>e=.returned (.bool (Ic d.kind d.n d.p 9 9 && Jh f.kind f.n f.p))/\Below w.heap.size w w':=by
 obtain⟨B,H,u⟩:=j;obtain⟨I,F,y⟩:=i;have t:b<w.heap.size+1:=omz
 have E:b<w.heap.size+1+1:=omz
 have J:Stil.arity op=2:=by unfold Stil.arity;rw[if_neg omz,if_neg omz,if_pos omz]
 have K:decide (op<21)=false:=by simp;omega
 have z:decide (37<op)=false:=by simp;omega
 subst q;all_goals
  go_enter func35,ntmps35
  go_wp2
  go_quiet (exact Calls.quiet_of_same (Jf _ _))
  go_wp2_with (first | (go_at_call 58;refine(Aae _ _ _ _ _ _ aqz aqz).mono ?_;rintro e g ⟨rfl,c⟩;obtain⟨l,m⟩:=D7 c;have r:w.heap.size<g.heap.size:=A51 yAa c.size;have k:w.heap.size+1<g.heap.size:=A51 yAa c.size;have s:=A51 yAa c.size) | (go_at_call 60;refine(U6 _ _ _ _ aqz aqz).mono ?_;rintro e g ⟨rfl,c⟩;obtain⟨l,m⟩:=D7 c;have r:w.heap.size<g.heap.size:=A51 yAa c.size;have k:w.heap.size+1<g.heap.size:=A51 yAa c.size;have s:=A51 yAa c.size))
  all_goals go_ret
  all_goals (refine⟨Ap ?_,blB⟩)
  all_goals go_light
  all_goals simp[*]
theorem Aaf (op:Int)(b o cap:Nat)(d:Stil.Dev)(r:List Stil.Dev)(w:World)(y:30<=op/\op<=35)(f:Stil.arity op=(r.length:Int)+1)(m:b<w.heap.size)
  (c:∀i (h:i<(d::r).length),Jc w b (o+i*3) (d::r)[i]) (g:∀x∈d::r,x.fits):
  Calls prog 35 #[.agg #[.int .i64 op, .slice (some ⟨b,o,none⟩) (r.length+1) cap]] w λe w'=>e=.returned (.bool (Wi op (d::r)))/\Below w.heap.size w w':=by
 obtain⟨q,z,k⟩:=c 0 spz;simp only[A8a,A75,A7a] at q z k;have t:r.length<=100:=by
  have:Stil.arity op<=3:=by unfold Stil.arity;split<;>(try split)<;>(try split)<;>omega
  omega
 have j:Hid (∀W,Below w.heap.size w W->∀i (h:i<(d::r).length),Jc W b (o+i*3) (d::r)[i]):=λW u i h=>(c i h).below u m
 have s:=hid g;have P:decide (op<21)=false:=by simp;omega
 have D:decide (37<op)=false:=by simp;omega
 have l:(op==21)=false/\(op==22)=false/\(op==23)=false/\(op==24)=false/\(op==25)=false/\(op==26)=false/\(op==27)=false/\(op==28)=false/\(op==29)=false/\(op==36)=false/\(op==37)=false:=by
  simp only[A64];omega
 obtain⟨H,G,K,B,A,L,O,F,C,I,J⟩:=l;have N:(((r.length:Int)+1) !=Stil.arity op)=false:=by rw[f];simp
 clear c g y f;go_enter func35,ntmps35
 go_wp2
 go_quiet (exact Calls.quiet_of_same (Jf _ _))
 go_wp2_with (first | (go_at_call 61;refine(A4n op b o cap d r _ yAd t (j _ blB) s.out).mono ?_;rintro e M ⟨rfl,E⟩))
 go_ret;exact⟨rfl,blB⟩
theorem Aoz {op:Int}(h1:21<=op)(c:op<=37):(Stil.arity op=1/\(op=21\/op=22\/op=23\/op=25))\/(Stil.arity op=2/\(op=24\/op=26\/op=27\/op=28\/op=29\/op=30\/op=36\/op=37))\/(Stil.arity op=3/\31<=op/\op<=35):=by
 unfold Stil.arity;by_cases a:op=1\/op=2\/op=21\/op=22\/op=23\/op=25
 ·rw[if_pos a];left;exact⟨rfl,omz⟩
 ·rw[if_neg a]
  by_cases b:31<=op/\op<=35
  ·rw[if_pos b];right;right;exact⟨rfl,b⟩
  ·rw[if_neg b,if_pos omz];right;left;exact⟨rfl,omz⟩
theorem Dh.cons {w:World}{d:Stil.Dev}{r:List Stil.Dev}(h:Dh w v (d::r)):∃b o cap,v=.slice (some ⟨b,o,none⟩) (r.length+1) cap/\b<w.heap.size/\∀i (hi:i<(d::r).length),Jc w b (o+i*3) (d::r)[i]:=by
 obtain⟨a,cap,f,c⟩:=h;obtain⟨b,o,rfl,j,_⟩:=c 0 spz;refine⟨b,o,cap,f,j,λi hi=>?_⟩;obtain⟨k,l,e,_,g⟩:=c i hi;simp only[A65,Addr.mk.injEq,A8u] at e;obtain⟨rfl,rfl⟩:=e;exact g
theorem Azh (op:Int)(v:Value)(q:List Stil.Dev)(w:World)(m:Dh w v q)(s:∀d∈q,d.fits)(hl:q.length<=9223372036854775807):
  Calls prog 35 #[.agg #[.int .i64 op,v]] w λe w'=>e=.returned (.bool (Ak op q))/\Below w.heap.size w w':=by
 by_cases h:op<21\/37<op\/(q.length:Int)≠Stil.arity op
 ·have e:Ak op q=false:=by unfold Ak;rw[if_pos h]
  obtain⟨a,cap,rfl,_⟩:=m;rw[e];exact Am8 op a q.length cap w h hl
 ·have z:21<=op:=by omega
  have A:op<=37:=omz
  have c:(q.length:Int)=Stil.arity op:=omz
  rcases Aoz z A with⟨l,x⟩ | ⟨l,x⟩ | ⟨l,x⟩
  ·match q,m,s,h,c with
   | [],_,_,_,c=>rw[l] at c;simp at c
   | [d],m,s,h,c=>
    obtain⟨b,o,cap,rfl,k,hd⟩:=m.one;have i:=(s d spz).2.1;exact Aj3 op b o cap d w z A l k hd i.1 i.2
   | d::f::r,_,_,_,c=>rw[l] at c;simp at c;omega
  ·match q,m,s,h,c with
   | [],_,_,_,c=>rw[l] at c;simp at c
   | [d],_,_,_,c=>rw[l] at c;simp at c
   | [d,f],m,s,h,c=>
    by_cases y:op=30
    ·obtain⟨b,o,cap,u,k,hd⟩:=m.cons
     have e:Ak op [d,f]=Wi op [d,f]:=by
      unfold Ak;rw[if_neg h];simp[y]
     rw[e,u];exact Aaf op b o cap d [f] w omz (by rw[l];rfl) k hd s
    ·obtain⟨b,o,cap,rfl,k,hd,t⟩:=m.two
     have i:=(s d spz).2.1;have j:=(s f spz).2.1;rcases x with rfl | rfl | rfl | rfl | rfl | rfl | rfl | rfl
     ·have e:Ak 24 [d,f]=(Ic d.kind d.n d.p 2 3 && Ic f.kind f.n f.p 5 5):=by unfold Ak;rw[if_neg h];rfl
      rw[e];exact Afx 24 b o cap d f w rfl k hd t i.1 i.2 j.1 j.2
     ·have e:Ak 26 [d,f]=(Ic d.kind d.n d.p 7 7 && Ic f.kind f.n f.p 11 11 && decide (0<=f.n)):=by unfold Ak;rw[if_neg h];rfl
      rw[e];exact Tt 26 b o cap d f w omz k hd t i.1 i.2 j.1 j.2
     ·have e:Ak 27 [d,f]=(Ic d.kind d.n d.p 7 7 && Ic f.kind f.n f.p 11 11 && decide (0<=f.n)):=by unfold Ak;rw[if_neg h];rfl
      rw[e];exact Tt 27 b o cap d f w omz k hd t i.1 i.2 j.1 j.2
     ·have e:Ak 28 [d,f]=(Ic d.kind d.n d.p 7 7 && Ic f.kind f.n f.p 11 11 && decide (0<=f.n)):=by unfold Ak;rw[if_neg h];rfl
      rw[e];exact Tt 28 b o cap d f w omz k hd t i.1 i.2 j.1 j.2
     ·have e:Ak 29 [d,f]=(Ic d.kind d.n d.p 8 8 && Ic f.kind f.n f.p 11 11 && decide (0<=f.n)):=by unfold Ak;rw[if_neg h];rfl
      rw[e];exact Afy 29 b o cap d f w rfl k hd t i.1 i.2 j.1 j.2
     ·exact absurd rfl y
     ·have e:Ak 36 [d,f]=(Ic d.kind d.n d.p 10 10 && Ii f.kind f.n f.p):=by unfold Ak;rw[if_neg h];rfl
      rw[e];exact Ah0 36 b o cap d f w rfl k hd t i.1 i.2 j.1 j.2
     ·have e:Ak 37 [d,f]=(Ic d.kind d.n d.p 9 9 && Jh f.kind f.n f.p):=by unfold Ak;rw[if_neg h];rfl
      rw[e];exact Afw 37 b o cap d f w rfl k hd t i.1 i.2 j.1 j.2
   | d::f::g::r,_,_,_,c=>rw[l] at c;simp at c;omega
  ·match q,m,s,h,c with
   | [],_,_,_,c=>rw[l] at c;simp at c
   | [d],_,_,_,c=>rw[l] at c;simp at c
   | [d,f],_,_,_,c=>rw[l] at c;simp at c
   | d::f::g::r,m,s,h,c=>
    obtain⟨b,o,cap,u,k,hd⟩:=m.cons;have e:Ak op (d::f::g::r)=Wi op (d::f::g::r):=by
     unfold Ak;rw[if_neg h]
    rw[e,u];exact Aaf op b o cap d (f::g::r) w omz (by rw[<-c];simp) k hd s
end Go.Proofs.YtnpfcnolmkanfaaGreatDoor
