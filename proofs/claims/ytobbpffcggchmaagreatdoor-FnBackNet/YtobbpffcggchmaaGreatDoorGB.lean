import Derived.Test.YtobbpffcggchmaaGreatDoorA00
import Derived.Below
import Derived.Test.YtobbpffcggchmaaGreatDoorCI3
namespace Go.RowKit
theorem hid {p:Prop}(h:p):Hid p:=h
end Go.RowKit
set_option maxHeartbeats 4000000
set_option maxRecDepth 100000
namespace Go.Proofs.YtobbpffcggchmaaGreatDoor
open Tryz
open Stil
open Go.RowKit Go.Sort Go.BigFrame
variable {W a w':World}{n:Nat}{v:Value}
theorem Jc (op:Int)(w:World):
  Calls prog 68 #[.int .i64 op] w λe w'=>e=.returned (.int .i64 (Stil.arity op))/\w'=w:=by
 go_enter func68,ntmps68
 go_wp2
 all_goals go_ret
 all_goals (refine⟨Ad8 ?_,rfl⟩;go_light;simp only[Bbk,A95] at*;unfold Stil.arity;first | (simp[*];done) | (repeat (first | rw[if_pos omz] | rw[if_neg omz])))
theorem Zu (k n p a b:Int)(w:World)(f:-9223372036854775808<=n)(d:n<=9223372036854775807):
  Calls prog 86 #[.agg #[.int .i64 k, .int .i64 n, .int .i64 p], .int .i64 a, .int .i64 b] w λe w'=>e=.returned (.bool (Ia k n p a b))/\Below w.heap.size w w':=by
 cases h:Ha k n p;all_goals
  go_enter func86,ntmps86
  go_wp2_with (go_at_call 83;refine(Aa8 _ _ _ _ f d).mono ?_;rintro e w' ⟨rfl,c⟩;obtain⟨i,g⟩:=Eh c)
  all_goals go_ret
  all_goals (refine⟨Ad ?_,Ry aqz⟩)
  all_goals go_light
  all_goals (rw[Ia,h,Baf];clear h;simp[*])
theorem Be {w:World}(h:Below w.heap.size w a)(o:Obj):Below w.heap.size w (a.alloc o):=h.alloc h.size o
theorem ltA {a b:Nat}(h:a<b:=by first | with_reducible assumption | (simp;done) | (simp;omega)):a<b:=h
theorem frA {w:World}{a:Addr}{v:Bool}(hb:Below n w W)(h1:a.block<n:=by simp)(h2:w.frozen? a=v:=by simp[go_sem]):W.frozen? a=v:=(hb.frozen h1).trans h2
theorem clA {w:World}{a:Addr}{v:Option Value}(hb:Below n w W)(h1:a.block<n:=by simp)(h2:w.cell? a=v:=by simp[go_sem]):W.cell? a=v:=(hb.cell h1).trans h2
theorem Jt {w:World}(h:Below w.heap.size w a)(n:Nat):Below w.heap.size w (a.drewN n):=below_drewN h n
theorem Nw {w:World}(h:Below w.heap.size w a):Below w.heap.size w a.drew:=h.drew
theorem Dj {w b:World}(h:Below w.heap.size w a)(k:Below a.heap.size a b):Below w.heap.size w b:=h.trans (k.mono h.size)
theorem Ep {w:World}{p:Addr}(b:w.heap.size<=p.block)(h:Below w.heap.size w a)(v:Value):Below w.heap.size w (a.setCell p v):=h.setCell b v
theorem Js {w:World}(h:Below w.heap.size w a)(d:Nat)(os:Array Obj):Below w.heap.size w (grow (redrawn a d) os):=Dj h (below_regrown a d os)
theorem blB {w:World}(h:Below n w W:=by(repeat (first | exact Below.refl _ _ | assumption | refine Be ?_ _ | refine Jt ?_ _ | refine Nw ?_ | refine Js ?_ _ _ | refine Ep (A88 _) ?_ _ | refine Dj ?_ (by assumption)))):Below n w W:=h
theorem blA {w:World}(h:Below n w W:=by(repeat (first | with_reducible exact Below.refl _ _ | with_reducible assumption | with_reducible refine Ep (by first | exact A88 _ | (simp;done) | (simp;omega) | omega) ?_ _ | with_reducible refine Be ?_ _ | with_reducible refine Jt ?_ _ | with_reducible refine Nw ?_ | with_reducible refine Js ?_ _ _ | with_reducible refine Dj ?_ (by assumption)))):Below n w W:=h
theorem Aq4 {w:World}{b:Nat}(h:b<w.heap.size)(k:Below w.heap.size w a):b<a.heap.size:=A82 h k.size
theorem Awp {w w1:World}{o:Obj}(b:Below ((w.alloc o).drewN n).heap.size ((w.alloc o).drewN n) w1):w.heap.size<w1.heap.size:=by have:=b.size;simp at this;omega
def Io (w:World)(b o:Nat)(d:Stil.Dev):Prop:=w.cell? ⟨b,o,none⟩=some (.int .i64 d.kind)/\w.cell? ⟨b,o+1,none⟩=some (.int .i64 d.n)/\w.cell? ⟨b,o+2,none⟩=some (.int .i64 d.p)
def A7 (w:World)(v:Value)(c:List Stil.Dev):Prop:=∃a cap,v=.slice a c.length cap/\∀i (h:i<c.length),∃b o,a=some ⟨b,o,none⟩/\b<w.heap.size/\Io w b (o+i*3) c[i]
theorem Io.below {w:World}{b o:Nat}{d:Stil.Dev}(h:Io w b o d)(e:Below w.heap.size w w')(c:b<w.heap.size):Io w' b o d:=by
 unfold Io at*;rw[e.cell (p:=⟨b,o,none⟩) c,e.cell (p:=⟨b,o+1,none⟩) c,e.cell (p:=⟨b,o+2,none⟩) c];exact h
theorem A7.below {w:World}{c:List Stil.Dev}(h:A7 w v c)(e:Below w.heap.size w w'):A7 w' v c:=by
 obtain⟨a,cap,g,j⟩:=h;refine⟨a,cap,g,λi hi=>?_⟩;obtain⟨b,o,f,d,hd⟩:=j i hi;exact⟨b,o,f,A82 d e.size,hd.below e d⟩
theorem A7.one {w:World}{d:Stil.Dev}(h:A7 w v [d]):∃b o cap,v=.slice (some ⟨b,o,none⟩) 1 cap/\b<w.heap.size/\Io w b o d:=by
 obtain⟨a,cap,e,f⟩:=h;obtain⟨b,o,rfl,c,hd⟩:=f 0 spz;exact⟨b,o,cap,e,c,hd⟩
theorem A7.two {w:World}{d e:Stil.Dev}(h:A7 w v [d,e]):∃b o cap,v=.slice (some ⟨b,o,none⟩) 2 cap/\b<w.heap.size/\Io w b o d/\Io w b (o+3) e:=by
 obtain⟨a,cap,i,f⟩:=h;obtain⟨b,o,rfl,g,hd⟩:=f 0 spz;obtain⟨k,l,c,_,j⟩:=f 1 spz;simp only[A96,Addr.mk.injEq,Bbx] at c;obtain⟨rfl,rfl⟩:=c;exact⟨b,o,cap,i,g,hd,j⟩
theorem Af3 (op:Int)(a:Option Addr)(len cap:Nat)(w:World)(h:op<1\/10<op\/(len:Int)≠Stil.arity op)(_hl:len<=9223372036854775807):
  Calls prog 56 #[.agg #[.int .i64 op, .slice a len cap]] w λe w'=>e=.returned (.bool false)/\Below w.heap.size w w':=by
 by_cases b:op<1
 ·have f:decide (op<1)=true:=by simpa using b
  go_enter func56,ntmps56
  go_wp2
  go_quiet (exact Calls.quiet_of_same (Jc _ _))
  go_wp2
  go_ret;exact⟨rfl,below_drewN (Aa _ _) _⟩
 ·have f:decide (op<1)=false:=by simpa using b
  by_cases c:10<op
  ·have d:decide (10<op)=true:=by simpa using c
   go_enter func56,ntmps56
   go_wp2
   go_quiet (exact Calls.quiet_of_same (Jc _ _))
   go_wp2
   go_ret;exact⟨rfl,below_drewN (Aa _ _) _⟩
  ·have d:decide (10<op)=false:=by simpa using c
   have g:((len:Int) !=Stil.arity op)=true:=by rw[bne_iff_ne];omega
   clear h;go_enter func56,ntmps56
   go_wp2
   go_quiet (exact Calls.quiet_of_same (Jc _ _))
   go_wp2
   go_ret;exact⟨rfl,below_drewN (Aa _ _) _⟩
theorem Ad2 (op:Int)(b o cap:Nat)(d:Stil.Dev)(w:World)(h1:1<=op)(k:op<=2)(l:b<w.heap.size)(g:Io w b o d)(c:-9223372036854775808<=d.n)(f:d.n<=9223372036854775807):
  Calls prog 56 #[.agg #[.int .i64 op, .slice (some ⟨b,o,none⟩) 1 cap]] w λe w'=>e=.returned (.bool d.isBit)/\Below w.heap.size w w':=by
 obtain⟨t,m,r⟩:=g;have j:decide (op<1)=false:=by simp;omega
 have i:decide (10<op)=false:=by simp;omega
 have s:Stil.arity op=1:=by unfold Stil.arity;rw[if_pos omz]
 go_enter func56,ntmps56
 go_wp2
 go_quiet (exact Calls.quiet_of_same (Jc _ _))
 go_wp2_with (go_at_call 82;refine(Xx _ _ _ _ c f).mono ?_;rintro e w' ⟨rfl,q⟩)
 go_ret;exact⟨rfl,blB⟩
theorem Af2 (op:Int)(b o cap:Nat)(d f:Stil.Dev)(w:World)(h1:3<=op)(M:op<=4)(r:b<w.heap.size)(t:Io w b o d)(u:Io w b (o+3) f)(g:-9223372036854775808<=d.n)(i:d.n<=9223372036854775807)(k:-9223372036854775808<=f.n)(q:f.n<=9223372036854775807):
  Calls prog 56 #[.agg #[.int .i64 op, .slice (some ⟨b,o,none⟩) 2 cap]] w λe w'=>e=.returned (.bool (d.isBit && f.ok && f.kind==5))/\Below w.heap.size w w':=by
 obtain⟨D,B,E⟩:=t;obtain⟨K,A,L⟩:=u;have J:b<w.heap.size+1:=omz
 have H:decide (op<1)=false:=by simp;omega
 have G:decide (10<op)=false:=by simp;omega
 have N:Stil.arity op=2:=by unfold Stil.arity;rw[if_neg omz,if_neg omz,if_pos omz]
 have y:decide (op<=2)=false:=by simp;omega
 unfold Stil.Dev.isBit Stil.Dev.ok;cases z:Qm d.kind d.n d.p
 ·go_enter func56,ntmps56
  go_wp2
  go_quiet (exact Calls.quiet_of_same (Jc _ _))
  go_wp2_with (go_at_call 82;refine(Xx _ _ _ _ g i).mono ?_;rintro e w' ⟨rfl,c⟩;obtain⟨j,m⟩:=Eh c)
  go_ret;exact⟨rfl,blB⟩
 ·cases F:Ha f.kind f.n f.p
  ·go_enter func56,ntmps56
   go_wp2
   go_quiet (exact Calls.quiet_of_same (Jc _ _))
   go_wp2_with (first | (go_at_call 82;refine(Xx _ _ _ _ g i).mono ?_;rintro e w' ⟨rfl,c⟩;obtain⟨j,m⟩:=Eh c) | (go_at_call 83;refine(Aa8 _ _ _ _ k q).mono ?_;rintro e s ⟨rfl,l⟩))
   go_ret;exact⟨Ad spz,blB⟩
  ·go_enter func56,ntmps56
   go_wp2
   go_quiet (exact Calls.quiet_of_same (Jc _ _))
   go_wp2_with (first | (go_at_call 82;refine(Xx _ _ _ _ g i).mono ?_;rintro e w' ⟨rfl,c⟩;obtain⟨j,m⟩:=Eh c;have x:=Awp c;have I:=Nat.lt_trans r x) | (go_at_call 83;refine(Aa8 _ _ _ _ k q).mono ?_;rintro e s ⟨rfl,l⟩;obtain⟨C,O⟩:=Eh l))
   go_ret;exact⟨Ad spz,blB⟩
theorem Ad3 (op:Int)(b o cap:Nat)(d f:Stil.Dev)(w:World)(h1:5<=op)(J:op<=10)(s:b<w.heap.size)(k:Io w b o d)(l:Io w b (o+3) f)(u:-9223372036854775808<=d.n)(y:d.n<=9223372036854775807)(B:-9223372036854775808<=f.n)(E:f.n<=9223372036854775807):
  Calls prog 56 #[.agg #[.int .i64 op, .slice (some ⟨b,o,none⟩) 2 cap]] w λe w'=>e=.returned (.bool (d.isWhole && f.isWhole || d.isReal && f.isReal))/\Below w.heap.size w w':=by
 obtain⟨z,x,A⟩:=k;obtain⟨H,t,I⟩:=l;have G:b<w.heap.size+1:=omz
 have D:decide (op<1)=false:=by simp;omega
 have C:decide (10<op)=false:=by simp;omega
 have K:Stil.arity op=2:=by unfold Stil.arity;rw[if_neg omz,if_neg omz,if_pos omz]
 have r:decide (op<=2)=false:=by simp;omega
 have F:decide (op<=4)=false:=by simp;omega
 unfold Stil.Dev.isWhole Stil.Dev.isReal;go_enter func56,ntmps56
 go_wp2
 go_quiet (exact Calls.quiet_of_same (Jc _ _))
 go_wp2_with (first | (go_at_call 84;refine(Sz _ _ _ _ aqz aqz).mono ?_;rintro e g ⟨rfl,c⟩;obtain⟨i,m⟩:=Eh c;have j:w.heap.size<g.heap.size:=A82 yAa c.size;have q:=A82 yAa c.size) | (go_at_call 85;refine(U8 _ _ _ _ aqz aqz).mono ?_;rintro e g ⟨rfl,c⟩;obtain⟨i,m⟩:=Eh c;have j:w.heap.size<g.heap.size:=A82 yAa c.size;have q:=A82 yAa c.size))
 all_goals go_ret
 all_goals (refine⟨Ad ?_,blB⟩)
 all_goals go_light
 all_goals simp[*]
theorem Anz (op:Int)(v:Value)(i:List Stil.Dev)(w:World)(k:A7 w v i)(j:∀d∈i,d.fits)(hl:i.length<=9223372036854775807):
  Calls prog 56 #[.agg #[.int .i64 op,v]] w λe w'=>e=.returned (.bool (Af op i))/\Below w.heap.size w w':=by
 have c:∀(h:op<1\/10<op\/(i.length:Int)≠Stil.arity op),Af op i=false->Calls prog 56 #[.agg #[.int .i64 op,v]] w λe w'=>e=.returned (.bool (Af op i))/\Below w.heap.size w w':=by
  intro h x;obtain⟨a,cap,rfl,_⟩:=k;rw[x];exact Af3 op a i.length cap w h hl
 by_cases h1:op<1\/10<op
 ·exact c omz (by unfold Af;rw[if_pos h1])
 ·by_cases l:op<=2
  ·have ha:Stil.arity op=1:=by unfold Stil.arity;rw[if_pos omz]
   match i,k,j,hl,c with
   | [],_,_,_,c=>exact c yEa yDe
   | [d],k,j,_,_=>
    obtain⟨b,o,cap,rfl,q,hd⟩:=k.one;have:=(j d spz).2.1
    have e:Af op [d]=d.isBit:=by unfold Af;rw[if_neg h1];simp[l]
    rw[e];exact Ad2 op b o cap d w omz l q hd this.1 this.2
   | [d,f],_,_,_,c=>exact c yEa (by unfold Af;rw[if_neg h1];simp[l])
   | d::f::g::r,_,_,_,c=>exact c (by right;right;simp[ha];omega) yDe
  ·have ha:Stil.arity op=2:=by unfold Stil.arity;rw[if_neg omz,if_neg omz,if_pos omz]
   match i,k,j,hl,c with
   | [],_,_,_,c=>exact c yEa yDe
   | [d],_,_,_,c=>exact c yEa (by unfold Af;rw[if_neg h1];simp[l])
   | [d,f],k,j,_,_=>
    obtain⟨b,o,cap,rfl,q,hd,u⟩:=k.two;have s:=(j d spz).2.1;have m:=(j f spz).2.1;by_cases t:op<=4
    ·have e:Af op [d,f]=(d.isBit && f.ok && f.kind==5):=by unfold Af;rw[if_neg h1];simp[l,t]
     rw[e];exact Af2 op b o cap d f w omz t q hd u s.1 s.2 m.1 m.2
    ·have e:Af op [d,f]=(d.isWhole && f.isWhole || d.isReal && f.isReal):=by unfold Af;rw[if_neg h1];simp[l,t]
     rw[e];exact Ad3 op b o cap d f w omz omz q hd u s.1 s.2 m.1 m.2
   | d::f::g::r,_,_,_,c=>exact c (by right;right;simp[ha];omega) yDe
theorem A64 (op:Int)(b o cap:Nat)(d:Stil.Dev)(r:List Stil.Dev)(w:World)(L:b<w.heap.size)(hl:r.length<=100)
  (A:∀i (h:i<(d::r).length),Io w b (o+i*3) (d::r)[i]) (z:∀x∈d::r,x.fits):
  Calls prog 87 #[.agg #[.int .i64 op, .slice (some ⟨b,o,none⟩) (r.length+1) cap]] w λe w'=>e=.returned (.bool (Wi op (d::r)))/\Below w.heap.size w w':=by
 have Z:b<w.heap.size+1:=omz
 obtain⟨F,C,Q⟩:=A 0 spz;simp only[Bbd,Ba8,Bab] at F C Q;obtain⟨N,P⟩:=(z d spz).2.1;cases M:Ia d.kind d.n d.p 9 10
 ·have q:Hid (Wi op (d::r)=false):=by show _=_;simp only[Wi,Stil.Dev.kindIs,M];rfl
  clear A z;go_enter func87,ntmps87
  go_wp2_with (first | (go_at_call 86;refine(Zu _ _ _ _ _ _ N P).mono ?_;rintro e G ⟨rfl,hb⟩;obtain⟨j,m⟩:=Eh hb;have l:w.heap.size<G.heap.size:=A82 yAa hb.size;have g:=A82 yAa hb.size))
  go_ret;exact⟨Ad (by rw[q.out]),blB⟩
 ·cases U:d.kind==9
  ·have q:Hid (Wi op (d::r)=(I4 false r && (op !=35))):=by show _=_;simp only[Wi,Stil.Dev.kindIs,M,U];simp
   have O:=hid A;have R:=hid z;clear A z;go_enter func87,ntmps87
   go_wp2_with (first | (go_at_call 86;refine(Zu _ _ _ _ _ _ N P).mono ?_;rintro e G ⟨rfl,hb⟩;obtain⟨j,m⟩:=Eh hb;have l:w.heap.size<G.heap.size:=A82 yAa hb.size;have g:=A82 yAa hb.size))
   clear j m l g;go_loopw [4] (λi wr=>∃k:Nat,k<=r.length/\i=.int .i64 ((k:Int)+1)/\I4 false r=I4 false (r.drop k)/\Below (w.heap.size+1) (w.alloc (.cells #[.int .i64 op, .slice (some ⟨b,o,none⟩) (r.length+1) cap] 27)) wr) (λi _=>r.length+1 - (intOf i).toNat)
   case atStart=>exact⟨0,omz,rfl,rfl,hb.mono spz⟩
   case round=>
    clear hb;obtain⟨k,Y,rfl,J,c⟩:=hrel;have y:=hid J;clear J F C Q;have S:w.heap.size<wr.heap.size:=by have:=c.size;simp at this;omega
    have F:wr.cell? ⟨w.heap.size,0,none⟩=some (.int .i64 op):=clA c;have V:wr.frozen? ⟨w.heap.size,0,none⟩=false:=frA c;have C:wr.cell? ⟨w.heap.size,1,none⟩=some (.slice (some ⟨b,o,none⟩) (r.length+1) cap):=clA c;have X:wr.frozen? ⟨w.heap.size,1,none⟩=false:=frA c;have B:=(Aa _ _).trans (c.mono omz);have g:=Aq4 L B;by_cases T:k<r.length
    ·obtain⟨I,K,D⟩:=(O (k+1) yAb).below B L
     simp only[Bb2] at I K D;obtain⟨t,u⟩:=(R r[k] spz).2.1;have f:Hid (I4 false (r.drop k)=(Ji r[k].kind r[k].n r[k].p && I4 false (r.drop (k+1)))):=by
      show(r.drop k).all _=_
      rw[Bas T,List.all_cons];rfl
     obtain⟨x,E⟩:∃x,x=r[k]:=⟨_,rfl⟩
     rw[<-E] at I K D t u f;clear E;cases H:Ji x.kind x.n x.p
     ·rw[H] at f
      go_wp2_with (first | (go_at_call 85;refine(U8 _ _ _ _ t u).mono ?_;rintro e s ⟨rfl,hb⟩;obtain⟨j,m⟩:=Eh hb;have l:w.heap.size<s.heap.size:=A82 yAa hb.size;have g:=A82 yAa hb.size))
      go_ret;exact⟨Ad (by rw[q.out,y.out,f.out];rfl),blB⟩
     ·rw[H] at f
      go_wp2_with (first | (go_at_call 85;refine(U8 _ _ _ _ t u).mono ?_;rintro e s ⟨rfl,hb⟩;obtain⟨j,m⟩:=Eh hb;have l:w.heap.size<s.heap.size:=A82 yAa hb.size;have g:=A82 yAa hb.size))
      refine⟨⟨k+1,omz,by go_num,by rw[y.out,f.out];rfl,?_⟩,by simp[intOf];omega⟩;exact c.trans (hb.mono S)
    ·go_wp2
     go_ret;exact⟨Ad (by rw[q.out,y.out,Bav omz];rfl),blB⟩
  ·have q:Hid (Wi op (d::r)=I4 true r):=by show _=_;simp only[Wi,Stil.Dev.kindIs,M,U];simp
   have O:=hid A;have R:=hid z;clear A z;go_enter func87,ntmps87
   go_wp2_with (first | (go_at_call 86;refine(Zu _ _ _ _ _ _ N P).mono ?_;rintro e G ⟨rfl,hb⟩;obtain⟨j,m⟩:=Eh hb;have l:w.heap.size<G.heap.size:=A82 yAa hb.size;have g:=A82 yAa hb.size))
   clear j m l g;go_loopw [4] (λi wr=>∃k:Nat,k<=r.length/\i=.int .i64 ((k:Int)+1)/\I4 true r=I4 true (r.drop k)/\Below (w.heap.size+1) (w.alloc (.cells #[.int .i64 op, .slice (some ⟨b,o,none⟩) (r.length+1) cap] 27)) wr) (λi _=>r.length+1 - (intOf i).toNat)
   case atStart=>exact⟨0,omz,rfl,rfl,hb.mono spz⟩
   case round=>
    clear hb;obtain⟨k,Y,rfl,J,c⟩:=hrel;have y:=hid J;clear J F C Q;have S:w.heap.size<wr.heap.size:=by have:=c.size;simp at this;omega
    have F:wr.cell? ⟨w.heap.size,0,none⟩=some (.int .i64 op):=clA c;have V:wr.frozen? ⟨w.heap.size,0,none⟩=false:=frA c;have C:wr.cell? ⟨w.heap.size,1,none⟩=some (.slice (some ⟨b,o,none⟩) (r.length+1) cap):=clA c;have X:wr.frozen? ⟨w.heap.size,1,none⟩=false:=frA c;have B:=(Aa _ _).trans (c.mono omz);have g:=Aq4 L B;by_cases T:k<r.length
    ·obtain⟨I,K,D⟩:=(O (k+1) yAb).below B L
     simp only[Bb2] at I K D;obtain⟨t,u⟩:=(R r[k] spz).2.1;have f:Hid (I4 true (r.drop k)=(Ig r[k].kind r[k].n r[k].p && I4 true (r.drop (k+1)))):=by
      show(r.drop k).all _=_
      rw[Bas T,List.all_cons];rfl
     obtain⟨x,E⟩:∃x,x=r[k]:=⟨_,rfl⟩
     rw[<-E] at I K D t u f;clear E;cases H:Ig x.kind x.n x.p
     ·rw[H] at f
      go_wp2_with (first | (go_at_call 84;refine(Sz _ _ _ _ t u).mono ?_;rintro e s ⟨rfl,hb⟩;obtain⟨j,m⟩:=Eh hb;have l:w.heap.size<s.heap.size:=A82 yAa hb.size;have g:=A82 yAa hb.size))
      go_ret;exact⟨Ad (by rw[q.out,y.out,f.out];rfl),blB⟩
     ·rw[H] at f
      go_wp2_with (first | (go_at_call 84;refine(Sz _ _ _ _ t u).mono ?_;rintro e s ⟨rfl,hb⟩;obtain⟨j,m⟩:=Eh hb;have l:w.heap.size<s.heap.size:=A82 yAa hb.size;have g:=A82 yAa hb.size))
      refine⟨⟨k+1,omz,by go_num,by rw[y.out,f.out];rfl,?_⟩,by simp[intOf];omega⟩;exact c.trans (hb.mono S)
    ·go_wp2
     go_ret;exact⟨Ad (by rw[q.out,y.out,Bav omz];rfl),blB⟩
theorem An0 (op:Int)(a:Option Addr)(len cap:Nat)(w:World)(h:op<21\/37<op\/(len:Int)≠Stil.arity op)(_hl:len<=9223372036854775807):
  Calls prog 57 #[.agg #[.int .i64 op, .slice a len cap]] w λe w'=>e=.returned (.bool false)/\Below w.heap.size w w':=by
 by_cases b:op<21
 ·have f:decide (op<21)=true:=by simpa using b
  go_enter func57,ntmps57
  go_wp2
  go_quiet (exact Calls.quiet_of_same (Jc _ _))
  go_wp2
  go_ret;exact⟨rfl,below_drewN (Aa _ _) _⟩
 ·have f:decide (op<21)=false:=by simpa using b
  by_cases c:37<op
  ·have d:decide (37<op)=true:=by simpa using c
   go_enter func57,ntmps57
   go_wp2
   go_quiet (exact Calls.quiet_of_same (Jc _ _))
   go_wp2
   go_ret;exact⟨rfl,below_drewN (Aa _ _) _⟩
  ·have d:decide (37<op)=false:=by simpa using c
   have g:((len:Int) !=Stil.arity op)=true:=by rw[bne_iff_ne];omega
   clear h;go_enter func57,ntmps57
   go_wp2
   go_quiet (exact Calls.quiet_of_same (Jc _ _))
   go_wp2
   go_ret;exact⟨rfl,below_drewN (Aa _ _) _⟩
theorem Akq (op:Int)(b o cap:Nat)(d:Stil.Dev)(w:World)(h1:21<=op)(l:op<=37)(c:Stil.arity op=1)(m:b<w.heap.size)(j:Io w b o d)(r:-9223372036854775808<=d.n)(u:d.n<=9223372036854775807):
  Calls prog 57 #[.agg #[.int .i64 op, .slice (some ⟨b,o,none⟩) 1 cap]] w λe w'=>e=.returned (.bool (Ar op [d]))/\Below w.heap.size w w':=by
 obtain⟨x,t,y⟩:=j;have E:b<w.heap.size+1:=omz
 have F:b<w.heap.size+1+1:=omz
 have k:op=21\/op=22\/op=23\/op=25:=by
  unfold Stil.arity at c;split at c
  ·omega
  ·split at c
   ·omega
   ·split at c<;>omega
 have i:Hid (Ar op [d]=if op=21 then Ia d.kind d.n d.p 2 3 else if op=22 then Ia d.kind d.n d.p 2 3 || Ia d.kind d.n d.p 4 4 else if op=23 then Ia d.kind d.n d.p 2 3 || Ia d.kind d.n d.p 4 7 || Ia d.kind d.n d.p 8 8 else Ia d.kind d.n d.p 4 4):=by
  show _=_
  unfold Ar;rw[if_neg (by simp[c];omega)];rfl
 have B:decide (op<21)=false:=by simp;omega
 have A:decide (37<op)=false:=by simp;omega
 clear h1 l;rcases k with rfl | rfl | rfl | rfl
 all_goals
  go_enter func57,ntmps57
  go_wp2
  go_quiet (exact Calls.quiet_of_same (Jc _ _))
  go_wp2_with (first | (go_at_call 86;refine(Zu _ _ _ _ _ _ aqz aqz).mono ?_;rintro e g ⟨rfl,f⟩;obtain⟨q,z⟩:=Eh f;have s:w.heap.size<g.heap.size:=A82 yAa f.size;have C:w.heap.size+1<g.heap.size:=A82 yAa f.size;have D:=A82 yAa f.size))
  all_goals go_ret
  all_goals (refine⟨Ad ?_,blB⟩)
  all_goals rw[i.out]
  all_goals go_light
  all_goals simp[*]
theorem Af5 (op:Int)(b o cap:Nat)(d f:Stil.Dev)(w:World)(k:op=24)(l:b<w.heap.size)(i:Io w b o d)(j:Io w b (o+3) f)(s:-9223372036854775808<=d.n)(u:d.n<=9223372036854775807)(z:-9223372036854775808<=f.n)(D:f.n<=9223372036854775807):
  Calls prog 57 #[.agg #[.int .i64 op, .slice (some ⟨b,o,none⟩) 2 cap]] w λe w'=>e=.returned (.bool (Ia d.kind d.n d.p 2 3 && Ia f.kind f.n f.p 5 5))/\Below w.heap.size w w':=by
 obtain⟨x,t,y⟩:=i;obtain⟨H,q,I⟩:=j;have G:b<w.heap.size+1:=omz
 have J:b<w.heap.size+1+1:=omz
 have K:Stil.arity op=2:=by unfold Stil.arity;rw[if_neg omz,if_neg omz,if_pos omz]
 have C:decide (op<21)=false:=by simp;omega
 have B:decide (37<op)=false:=by simp;omega
 subst k;all_goals
  go_enter func57,ntmps57
  go_wp2
  go_quiet (exact Calls.quiet_of_same (Jc _ _))
  go_wp2_with (first | (go_at_call 86;refine(Zu _ _ _ _ _ _ aqz aqz).mono ?_;rintro e g ⟨rfl,c⟩;obtain⟨m,A⟩:=Eh c;have r:w.heap.size<g.heap.size:=A82 yAa c.size;have E:w.heap.size+1<g.heap.size:=A82 yAa c.size;have F:=A82 yAa c.size))
  all_goals go_ret
  all_goals (refine⟨Ad ?_,blB⟩)
  all_goals go_light
  all_goals simp[*]
theorem Tu (op:Int)(b o cap:Nat)(d f:Stil.Dev)(w:World)(k:op=26\/op=27\/op=28)(l:b<w.heap.size)(i:Io w b o d)(j:Io w b (o+3) f)(s:-9223372036854775808<=d.n)(u:d.n<=9223372036854775807)(z:-9223372036854775808<=f.n)(D:f.n<=9223372036854775807):
  Calls prog 57 #[.agg #[.int .i64 op, .slice (some ⟨b,o,none⟩) 2 cap]] w λe w'=>e=.returned (.bool (Ia d.kind d.n d.p 7 7 && Ia f.kind f.n f.p 11 11 && decide (0<=f.n)))/\Below w.heap.size w w':=by
 obtain⟨x,t,y⟩:=i;obtain⟨H,q,I⟩:=j;have G:b<w.heap.size+1:=omz
 have J:b<w.heap.size+1+1:=omz
 have K:Stil.arity op=2:=by unfold Stil.arity;rw[if_neg omz,if_neg omz,if_pos omz]
 have C:decide (op<21)=false:=by simp;omega
 have B:decide (37<op)=false:=by simp;omega
 rcases k with rfl | rfl | rfl
 all_goals
  go_enter func57,ntmps57
  go_wp2
  go_quiet (exact Calls.quiet_of_same (Jc _ _))
  go_wp2_with (first | (go_at_call 86;refine(Zu _ _ _ _ _ _ aqz aqz).mono ?_;rintro e g ⟨rfl,c⟩;obtain⟨m,A⟩:=Eh c;have r:w.heap.size<g.heap.size:=A82 yAa c.size;have E:w.heap.size+1<g.heap.size:=A82 yAa c.size;have F:=A82 yAa c.size))
  all_goals go_ret
  all_goals (refine⟨Ad ?_,blB⟩)
  all_goals go_light
  all_goals simp[*]
theorem Af6 (op:Int)(b o cap:Nat)(d f:Stil.Dev)(w:World)(k:op=29)(l:b<w.heap.size)(i:Io w b o d)(j:Io w b (o+3) f)(s:-9223372036854775808<=d.n)(u:d.n<=9223372036854775807)(z:-9223372036854775808<=f.n)(D:f.n<=9223372036854775807):
  Calls prog 57 #[.agg #[.int .i64 op, .slice (some ⟨b,o,none⟩) 2 cap]] w λe w'=>e=.returned (.bool (Ia d.kind d.n d.p 8 8 && Ia f.kind f.n f.p 11 11 && decide (0<=f.n)))/\Below w.heap.size w w':=by
 obtain⟨x,t,y⟩:=i;obtain⟨H,q,I⟩:=j;have G:b<w.heap.size+1:=omz
 have J:b<w.heap.size+1+1:=omz
 have K:Stil.arity op=2:=by unfold Stil.arity;rw[if_neg omz,if_neg omz,if_pos omz]
 have C:decide (op<21)=false:=by simp;omega
 have B:decide (37<op)=false:=by simp;omega
 subst k;all_goals
  go_enter func57,ntmps57
  go_wp2
  go_quiet (exact Calls.quiet_of_same (Jc _ _))
  go_wp2_with (first | (go_at_call 86;refine(Zu _ _ _ _ _ _ aqz aqz).mono ?_;rintro e g ⟨rfl,c⟩;obtain⟨m,A⟩:=Eh c;have r:w.heap.size<g.heap.size:=A82 yAa c.size;have E:w.heap.size+1<g.heap.size:=A82 yAa c.size;have F:=A82 yAa c.size))
  all_goals go_ret
  all_goals (refine⟨Ad ?_,blB⟩)
  all_goals go_light
  all_goals simp[*]
theorem Aim (op:Int)(b o cap:Nat)(d f:Stil.Dev)(w:World)(s:op=36)(t:b<w.heap.size)(k:Io w b o d)(l:Io w b (o+3) f)(x:-9223372036854775808<=d.n)(z:d.n<=9223372036854775807)(C:-9223372036854775808<=f.n)(F:f.n<=9223372036854775807):
  Calls prog 57 #[.agg #[.int .i64 op, .slice (some ⟨b,o,none⟩) 2 cap]] w λe w'=>e=.returned (.bool (Ia d.kind d.n d.p 10 10 && Ig f.kind f.n f.p))/\Below w.heap.size w w':=by
 obtain⟨A,y,B⟩:=k;obtain⟨H,u,I⟩:=l;have G:b<w.heap.size+1:=omz
 have J:b<w.heap.size+1+1:=omz
 have K:Stil.arity op=2:=by unfold Stil.arity;rw[if_neg omz,if_neg omz,if_pos omz]
 have E:decide (op<21)=false:=by simp;omega
 have D:decide (37<op)=false:=by simp;omega
 subst s;all_goals
  go_enter func57,ntmps57
  go_wp2
  go_quiet (exact Calls.quiet_of_same (Jc _ _))
  go_wp2_with (first | (go_at_call 86;refine(Zu _ _ _ _ _ _ aqz aqz).mono ?_;rintro e g ⟨rfl,c⟩;obtain⟨i,m⟩:=Eh c;have j:w.heap.size<g.heap.size:=A82 yAa c.size;have q:w.heap.size+1<g.heap.size:=A82 yAa c.size;have r:=A82 yAa c.size) | (go_at_call 84;refine(Sz _ _ _ _ aqz aqz).mono ?_;rintro e g ⟨rfl,c⟩;obtain⟨i,m⟩:=Eh c;have j:w.heap.size<g.heap.size:=A82 yAa c.size;have q:w.heap.size+1<g.heap.size:=A82 yAa c.size;have r:=A82 yAa c.size))
  all_goals go_ret
  all_goals (refine⟨Ad ?_,blB⟩)
  all_goals go_light
  all_goals simp[*]
theorem Af4 (op:Int)(b o cap:Nat)(d f:Stil.Dev)(w:World)(s:op=37)(t:b<w.heap.size)(k:Io w b o d)(l:Io w b (o+3) f)(x:-9223372036854775808<=d.n)(z:d.n<=9223372036854775807)(C:-9223372036854775808<=f.n)(F:f.n<=9223372036854775807):
  Calls prog 57 #[.agg #[.int .i64 op, .slice (some ⟨b,o,none⟩) 2 cap]] w λe w'=>e=.returned (.bool (Ia d.kind d.n d.p 9 9 && Ji f.kind f.n f.p))/\Below w.heap.size w w':=by
 obtain⟨A,y,B⟩:=k;obtain⟨H,u,I⟩:=l;have G:b<w.heap.size+1:=omz
 have J:b<w.heap.size+1+1:=omz
 have K:Stil.arity op=2:=by unfold Stil.arity;rw[if_neg omz,if_neg omz,if_pos omz]
 have E:decide (op<21)=false:=by simp;omega
 have D:decide (37<op)=false:=by simp;omega
 subst s;all_goals
  go_enter func57,ntmps57
  go_wp2
  go_quiet (exact Calls.quiet_of_same (Jc _ _))
  go_wp2_with (first | (go_at_call 86;refine(Zu _ _ _ _ _ _ aqz aqz).mono ?_;rintro e g ⟨rfl,c⟩;obtain⟨i,m⟩:=Eh c;have j:w.heap.size<g.heap.size:=A82 yAa c.size;have q:w.heap.size+1<g.heap.size:=A82 yAa c.size;have r:=A82 yAa c.size) | (go_at_call 85;refine(U8 _ _ _ _ aqz aqz).mono ?_;rintro e g ⟨rfl,c⟩;obtain⟨i,m⟩:=Eh c;have j:w.heap.size<g.heap.size:=A82 yAa c.size;have q:w.heap.size+1<g.heap.size:=A82 yAa c.size;have r:=A82 yAa c.size))
  all_goals go_ret
  all_goals (refine⟨Ad ?_,blB⟩)
  all_goals go_light
  all_goals simp[*]
theorem Zv (op:Int)(b o cap:Nat)(d:Stil.Dev)(r:List Stil.Dev)(w:World)(y:30<=op/\op<=35)(g:Stil.arity op=(r.length:Int)+1)(l:b<w.heap.size)
  (c:∀i (h:i<(d::r).length),Io w b (o+i*3) (d::r)[i]) (f:∀x∈d::r,x.fits):
  Calls prog 57 #[.agg #[.int .i64 op, .slice (some ⟨b,o,none⟩) (r.length+1) cap]] w λe w'=>e=.returned (.bool (Wi op (d::r)))/\Below w.heap.size w w':=by
 obtain⟨s,m,q⟩:=c 0 spz;simp only[Bbd,Ba8,Bab] at s m q;have u:r.length<=100:=by
  have:Stil.arity op<=3:=by unfold Stil.arity;split<;>(try split)<;>(try split)<;>omega
  omega
 have k:Hid (∀W,Below w.heap.size w W->∀i (h:i<(d::r).length),Io W b (o+i*3) (d::r)[i]):=λW z i h=>(c i h).below z l
 have t:=hid f;have I:decide (op<21)=false:=by simp;omega
 have H:decide (37<op)=false:=by simp;omega
 have j:(op==21)=false/\(op==22)=false/\(op==23)=false/\(op==24)=false/\(op==25)=false/\(op==26)=false/\(op==27)=false/\(op==28)=false/\(op==29)=false/\(op==36)=false/\(op==37)=false:=by
  simp only[A95];omega
 obtain⟨F,D,B,K,L,M,E,C,O,A,N⟩:=j;have P:(((r.length:Int)+1) !=Stil.arity op)=false:=by rw[g];simp
 clear c f y g;go_enter func57,ntmps57
 go_wp2
 go_quiet (exact Calls.quiet_of_same (Jc _ _))
 go_wp2_with (first | (go_at_call 87;refine(A64 op b o cap d r _ yAb u (k _ blB) t.out).mono ?_;rintro e J ⟨rfl,G⟩))
 go_ret;exact⟨rfl,blB⟩
theorem Ap0 {op:Int}(h1:21<=op)(c:op<=37):(Stil.arity op=1/\(op=21\/op=22\/op=23\/op=25))\/(Stil.arity op=2/\(op=24\/op=26\/op=27\/op=28\/op=29\/op=30\/op=36\/op=37))\/(Stil.arity op=3/\31<=op/\op<=35):=by
 unfold Stil.arity;by_cases a:op=1\/op=2\/op=21\/op=22\/op=23\/op=25
 ·rw[if_pos a];left;exact⟨rfl,omz⟩
 ·rw[if_neg a]
  by_cases b:31<=op/\op<=35
  ·rw[if_pos b];right;right;exact⟨rfl,b⟩
  ·rw[if_neg b,if_pos omz];right;left;exact⟨rfl,omz⟩
theorem A7.cons {w:World}{d:Stil.Dev}{r:List Stil.Dev}(h:A7 w v (d::r)):∃b o cap,v=.slice (some ⟨b,o,none⟩) (r.length+1) cap/\b<w.heap.size/\∀i (hi:i<(d::r).length),Io w b (o+i*3) (d::r)[i]:=by
 obtain⟨a,cap,j,e⟩:=h;obtain⟨b,o,rfl,g,_⟩:=e 0 spz;refine⟨b,o,cap,j,g,λi hi=>?_⟩;obtain⟨l,k,c,_,f⟩:=e i hi;simp only[A96,Addr.mk.injEq,Bbx] at c;obtain⟨rfl,rfl⟩:=c;exact f
theorem A1d (op:Int)(v:Value)(s:List Stil.Dev)(w:World)(q:A7 w v s)(m:∀d∈s,d.fits)(hl:s.length<=9223372036854775807):
  Calls prog 57 #[.agg #[.int .i64 op,v]] w λe w'=>e=.returned (.bool (Ar op s))/\Below w.heap.size w w':=by
 by_cases h:op<21\/37<op\/(s.length:Int)≠Stil.arity op
 ·have e:Ar op s=false:=by unfold Ar;rw[if_pos h]
  obtain⟨a,cap,rfl,_⟩:=q;rw[e];exact An0 op a s.length cap w h hl
 ·have A:21<=op:=by omega
  have z:op<=37:=omz
  have c:(s.length:Int)=Stil.arity op:=omz
  rcases Ap0 A z with⟨l,u⟩ | ⟨l,u⟩ | ⟨l,u⟩
  ·match s,q,m,h,c with
   | [],_,_,_,c=>rw[l] at c;simp at c
   | [d],q,m,h,c=>
    obtain⟨b,o,cap,rfl,k,hd⟩:=q.one;have i:=(m d spz).2.1;exact Akq op b o cap d w A z l k hd i.1 i.2
   | d::f::r,_,_,_,c=>rw[l] at c;simp at c;omega
  ·match s,q,m,h,c with
   | [],_,_,_,c=>rw[l] at c;simp at c
   | [d],_,_,_,c=>rw[l] at c;simp at c
   | [d,f],q,m,h,c=>
    by_cases y:op=30
    ·obtain⟨b,o,cap,x,k,hd⟩:=q.cons
     have e:Ar op [d,f]=Wi op [d,f]:=by
      unfold Ar;rw[if_neg h];simp[y]
     rw[e,x];exact Zv op b o cap d [f] w omz (by rw[l];rfl) k hd m
    ·obtain⟨b,o,cap,rfl,k,hd,t⟩:=q.two
     have i:=(m d spz).2.1;have j:=(m f spz).2.1;rcases u with rfl | rfl | rfl | rfl | rfl | rfl | rfl | rfl
     ·have e:Ar 24 [d,f]=(Ia d.kind d.n d.p 2 3 && Ia f.kind f.n f.p 5 5):=by unfold Ar;rw[if_neg h];rfl
      rw[e];exact Af5 24 b o cap d f w rfl k hd t i.1 i.2 j.1 j.2
     ·have e:Ar 26 [d,f]=(Ia d.kind d.n d.p 7 7 && Ia f.kind f.n f.p 11 11 && decide (0<=f.n)):=by unfold Ar;rw[if_neg h];rfl
      rw[e];exact Tu 26 b o cap d f w omz k hd t i.1 i.2 j.1 j.2
     ·have e:Ar 27 [d,f]=(Ia d.kind d.n d.p 7 7 && Ia f.kind f.n f.p 11 11 && decide (0<=f.n)):=by unfold Ar;rw[if_neg h];rfl
      rw[e];exact Tu 27 b o cap d f w omz k hd t i.1 i.2 j.1 j.2
     ·have e:Ar 28 [d,f]=(Ia d.kind d.n d.p 7 7 && Ia f.kind f.n f.p 11 11 && decide (0<=f.n)):=by unfold Ar;rw[if_neg h];rfl
      rw[e];exact Tu 28 b o cap d f w omz k hd t i.1 i.2 j.1 j.2
     ·have e:Ar 29 [d,f]=(Ia d.kind d.n d.p 8 8 && Ia f.kind f.n f.p 11 11 && decide (0<=f.n)):=by unfold Ar;rw[if_neg h];rfl
      rw[e];exact Af6 29 b o cap d f w rfl k hd t i.1 i.2 j.1 j.2
     ·exact absurd rfl y
     ·have e:Ar 36 [d,f]=(Ia d.kind d.n d.p 10 10 && Ig f.kind f.n f.p):=by unfold Ar;rw[if_neg h];rfl
      rw[e];exact Aim 36 b o cap d f w rfl k hd t i.1 i.2 j.1 j.2
     ·have e:Ar 37 [d,f]=(Ia d.kind d.n d.p 9 9 && Ji f.kind f.n f.p):=by unfold Ar;rw[if_neg h];rfl
      rw[e];exact Af4 37 b o cap d f w rfl k hd t i.1 i.2 j.1 j.2
   | d::f::g::r,_,_,_,c=>rw[l] at c;simp at c;omega
  ·match s,q,m,h,c with
   | [],_,_,_,c=>rw[l] at c;simp at c
   | [d],_,_,_,c=>rw[l] at c;simp at c
   | [d,f],_,_,_,c=>rw[l] at c;simp at c
   | d::f::g::r,q,m,h,c=>
    obtain⟨b,o,cap,x,k,hd⟩:=q.cons;have e:Ar op (d::f::g::r)=Wi op (d::f::g::r):=by
     unfold Ar;rw[if_neg h]
    rw[e,x];exact Zv op b o cap d (f::g::r) w omz (by rw[<-c];simp) k hd m
end Go.Proofs.YtobbpffcggchmaaGreatDoor
