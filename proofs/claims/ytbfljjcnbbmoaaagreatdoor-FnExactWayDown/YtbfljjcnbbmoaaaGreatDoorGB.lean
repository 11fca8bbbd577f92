import Derived.Test.YtbfljjcnbbmoaaaGreatDoorCA2
import Derived.Test.YtbfljjcnbbmoaaaGreatDoorM56
set_option maxHeartbeats 4000000
set_option maxRecDepth 100000
namespace Go.Proofs.YtbfljjcnbbmoaaaGreatDoor
open Stil
open Go.RowKit Go.Sort Go.BigFrame
variable {W a w':World}{n:Nat}{v:Value}
theorem Jm (op:Int)(w:World):
  Calls Tryz.prog 104 #[.int .i64 op] w λe w'=>e=.returned (.int .i64 (Stil.arity op))/\w'=w:=by
 go_enter Tryz.func104,Tryz.ntmps104
 go_wp2
 all_goals go_ret
 all_goals (refine⟨C9 ?_,rfl⟩;go_light;simp only[beq_iff_eq,A5a] at*;unfold Stil.arity;first | (simp[*];done) | (repeat (first | rw[if_pos omz] | rw[if_neg omz])))
theorem Zg (k n p a b:Int)(w:World)(hn1:-9223372036854775808<=n)(hn2:n<=9223372036854775807):
  Calls Tryz.prog 105 #[.agg #[.int .i64 k, .int .i64 n, .int .i64 p], .int .i64 a, .int .i64 b] w λe w'=>e=.returned (.bool (Hw k n p a b))/\Below w.heap.size w w':=by
 cases h:Gy k n p;all_goals
  go_enter Tryz.func105,Tryz.ntmps105
  go_wp2_with (go_at_call 123;refine(Aan _ _ _ _ hn1 hn2).mono ?_;rintro e w' ⟨rfl,hb⟩;obtain⟨hc,hf⟩:=Dq hb)
  all_goals go_ret
  all_goals (refine⟨Ar ?_,Iy aqz⟩)
  all_goals go_light
  all_goals (rw[Hw,h,Bool.eq_iff_iff];clear h;simp[*])
theorem Bq {w:World}(h:Below w.heap.size w a)(o:Obj):Below w.heap.size w (a.alloc o):=h.alloc h.size o
theorem ltA {a b:Nat}(h:a<b:=by first | with_reducible assumption | (simp;done) | (simp;omega)):a<b:=h
theorem frA {w:World}{a:Addr}{v:Bool}(hb:Below n w W)(h1:a.block<n:=by simp)(h2:w.frozen? a=v:=by simp[go_sem]):W.frozen? a=v:=(hb.frozen h1).trans h2
theorem clA {w:World}{a:Addr}{v:Option Value}(hb:Below n w W)(h1:a.block<n:=by simp)(h2:w.cell? a=v:=by simp[go_sem]):W.cell? a=v:=(hb.cell h1).trans h2
theorem Hg {w:World}(h:Below w.heap.size w a)(n:Nat):Below w.heap.size w (a.drewN n):=below_drewN h n
theorem Iw {w:World}(h:Below w.heap.size w a):Below w.heap.size w a.drew:=h.drew
theorem Bd {w b:World}(h:Below w.heap.size w a)(k:Below a.heap.size a b):Below w.heap.size w b:=h.trans (k.mono h.size)
theorem Bz {w:World}{p:Addr}(hp:w.heap.size<=p.block)(h:Below w.heap.size w a)(v:Value):Below w.heap.size w (a.setCell p v):=h.setCell hp v
theorem Ep {w:World}(h:Below w.heap.size w a)(d:Nat)(os:Array Obj):Below w.heap.size w (grow (redrawn a d) os):=Bd h (below_regrown a d os)
theorem blB {w:World}(h:Below n w W:=by(repeat (first | exact Below.refl _ _ | assumption | refine Bq ?_ _ | refine Hg ?_ _ | refine Iw ?_ | refine Ep ?_ _ _ | refine Bz (A4d _) ?_ _ | refine Bd ?_ (by assumption)))):Below n w W:=h
theorem blA {w:World}(h:Below n w W:=by(repeat (first | with_reducible exact Below.refl _ _ | with_reducible assumption | with_reducible refine Bz (by first | exact A4d _ | (simp;done) | (simp;omega) | omega) ?_ _ | with_reducible refine Bq ?_ _ | with_reducible refine Hg ?_ _ | with_reducible refine Iw ?_ | with_reducible refine Ep ?_ _ _ | with_reducible refine Bd ?_ (by assumption)))):Below n w W:=h
theorem Anw {w:World}{b:Nat}(h:b<w.heap.size)(k:Below w.heap.size w a):b<a.heap.size:=A37 h k.size
theorem Atr {w w1:World}{o:Obj}(hb:Below ((w.alloc o).drewN n).heap.size ((w.alloc o).drewN n) w1):w.heap.size<w1.heap.size:=by have:=hb.size;simp at this;omega
def Ij (w:World)(b o:Nat)(d:Stil.Dev):Prop:=w.cell? ⟨b,o,none⟩=some (.int .i64 d.kind)/\w.cell? ⟨b,o+1,none⟩=some (.int .i64 d.n)/\w.cell? ⟨b,o+2,none⟩=some (.int .i64 d.p)
def Bi (w:World)(v:Value)(ds:List Stil.Dev):Prop:=∃a cap,v=.slice a ds.length cap/\∀i (h:i<ds.length),∃b o,a=some ⟨b,o,none⟩/\b<w.heap.size/\Ij w b (o+i*3) ds[i]
theorem Ij.below {w:World}{b o:Nat}{d:Stil.Dev}(h:Ij w b o d)(hb:Below w.heap.size w w')(hlt:b<w.heap.size):Ij w' b o d:=by
 unfold Ij at*;rw[hb.cell (p:=⟨b,o,none⟩) hlt,hb.cell (p:=⟨b,o+1,none⟩) hlt,hb.cell (p:=⟨b,o+2,none⟩) hlt];exact h
theorem Bi.below {w:World}{ds:List Stil.Dev}(h:Bi w v ds)(hb:Below w.heap.size w w'):Bi w' v ds:=by
 obtain⟨a,cap,hv,hc⟩:=h;refine⟨a,cap,hv,λi hi=>?_⟩;obtain⟨b,o,ha,hlt,hd⟩:=hc i hi;exact⟨b,o,ha,A37 hlt hb.size,hd.below hb hlt⟩
theorem Bi.one {w:World}{d:Stil.Dev}(h:Bi w v [d]):∃b o cap,v=.slice (some ⟨b,o,none⟩) 1 cap/\b<w.heap.size/\Ij w b o d:=by
 obtain⟨a,cap,hv,hc⟩:=h;obtain⟨b,o,rfl,hlt,hd⟩:=hc 0 spz;exact⟨b,o,cap,hv,hlt,hd⟩
theorem Bi.two {w:World}{d e:Stil.Dev}(h:Bi w v [d,e]):∃b o cap,v=.slice (some ⟨b,o,none⟩) 2 cap/\b<w.heap.size/\Ij w b o d/\Ij w b (o+3) e:=by
 obtain⟨a,cap,hv,hc⟩:=h;obtain⟨b,o,rfl,hlt,hd⟩:=hc 0 spz;obtain⟨b',o',e1,_,hd'⟩:=hc 1 spz;simp only[Option.some.injEq,Addr.mk.injEq,and_true] at e1;obtain⟨rfl,rfl⟩:=e1;exact⟨b,o,cap,hv,hlt,hd,hd'⟩
theorem Aeu (op:Int)(a:Option Addr)(len cap:Nat)(w:World)(h:op<1\/10<op\/(len:Int)≠Stil.arity op)(_hl:len<=9223372036854775807):
  Calls Tryz.prog 103 #[.agg #[.int .i64 op, .slice a len cap]] w λe w'=>e=.returned (.bool false)/\Below w.heap.size w w':=by
 by_cases h1:op<1
 ·have h1':decide (op<1)=true:=by simpa using h1
  go_enter Tryz.func103,Tryz.ntmps103
  go_wp2
  go_quiet (exact Calls.quiet_of_same (Jm _ _))
  go_wp2
  go_ret;exact⟨rfl,below_drewN (Aa _ _) _⟩
 ·have h1':decide (op<1)=false:=by simpa using h1
  by_cases h2:10<op
  ·have h2':decide (10<op)=true:=by simpa using h2
   go_enter Tryz.func103,Tryz.ntmps103
   go_wp2
   go_quiet (exact Calls.quiet_of_same (Jm _ _))
   go_wp2
   go_ret;exact⟨rfl,below_drewN (Aa _ _) _⟩
  ·have h2':decide (10<op)=false:=by simpa using h2
   have h3:((len:Int) !=Stil.arity op)=true:=by rw[bne_iff_ne];omega
   clear h;go_enter Tryz.func103,Tryz.ntmps103
   go_wp2
   go_quiet (exact Calls.quiet_of_same (Jm _ _))
   go_wp2
   go_ret;exact⟨rfl,below_drewN (Aa _ _) _⟩
theorem Acz (op:Int)(b o cap:Nat)(d:Stil.Dev)(w:World)(h1:1<=op)(h2:op<=2)(hlt:b<w.heap.size)(hat:Ij w b o d)(hn1:-9223372036854775808<=d.n)(hn2:d.n<=9223372036854775807):
  Calls Tryz.prog 103 #[.agg #[.int .i64 op, .slice (some ⟨b,o,none⟩) 1 cap]] w λe w'=>e=.returned (.bool d.isBit)/\Below w.heap.size w w':=by
 obtain⟨c0,c1,c2⟩:=hat;have h1':decide (op<1)=false:=by simp;omega
 have h2':decide (10<op)=false:=by simp;omega
 have h3:Stil.arity op=1:=by unfold Stil.arity;rw[if_pos omz]
 go_enter Tryz.func103,Tryz.ntmps103
 go_wp2
 go_quiet (exact Calls.quiet_of_same (Jm _ _))
 go_wp2_with (go_at_call 122;refine(Xe _ _ _ _ hn1 hn2).mono ?_;rintro e w' ⟨rfl,hb⟩)
 go_ret;exact⟨rfl,blB⟩
theorem Aet (op:Int)(b o cap:Nat)(d f:Stil.Dev)(w:World)(h1:3<=op)(h2:op<=4)(hlt:b<w.heap.size)(hat:Ij w b o d)(dM:Ij w b (o+3) f)(hn1:-9223372036854775808<=d.n)(hn2:d.n<=9223372036854775807)(hm1:-9223372036854775808<=f.n)(hm2:f.n<=9223372036854775807):
  Calls Tryz.prog 103 #[.agg #[.int .i64 op, .slice (some ⟨b,o,none⟩) 2 cap]] w λe w'=>e=.returned (.bool (d.isBit && f.ok && f.kind==5))/\Below w.heap.size w w':=by
 obtain⟨c0,c1,c2⟩:=hat;obtain⟨e0,e1,e2⟩:=dM;have hlt1:b<w.heap.size+1:=omz
 have h1':decide (op<1)=false:=by simp;omega
 have h2':decide (10<op)=false:=by simp;omega
 have h3:Stil.arity op=2:=by unfold Stil.arity;rw[if_neg omz,if_neg omz,if_pos omz]
 have h4':decide (op<=2)=false:=by simp;omega
 unfold Stil.Dev.isBit Stil.Dev.ok;cases g1:O8 d.kind d.n d.p
 ·go_enter Tryz.func103,Tryz.ntmps103
  go_wp2
  go_quiet (exact Calls.quiet_of_same (Jm _ _))
  go_wp2_with (go_at_call 122;refine(Xe _ _ _ _ hn1 hn2).mono ?_;rintro e w' ⟨rfl,hb⟩;obtain⟨hc,hf⟩:=Dq hb)
  go_ret;exact⟨rfl,blB⟩
 ·cases g2:Gy f.kind f.n f.p
  ·go_enter Tryz.func103,Tryz.ntmps103
   go_wp2
   go_quiet (exact Calls.quiet_of_same (Jm _ _))
   go_wp2_with (first | (go_at_call 122;refine(Xe _ _ _ _ hn1 hn2).mono ?_;rintro e w' ⟨rfl,hb⟩;obtain⟨hc,hf⟩:=Dq hb) | (go_at_call 123;refine(Aan _ _ _ _ hm1 hm2).mono ?_;rintro e w2 ⟨rfl,hb2⟩))
   go_ret;exact⟨Ar spz,blB⟩
  ·go_enter Tryz.func103,Tryz.ntmps103
   go_wp2
   go_quiet (exact Calls.quiet_of_same (Jm _ _))
   go_wp2_with (first | (go_at_call 122;refine(Xe _ _ _ _ hn1 hn2).mono ?_;rintro e w' ⟨rfl,hb⟩;obtain⟨hc,hf⟩:=Dq hb;have hz:=Atr hb;have hz1:=Nat.lt_trans hlt hz) | (go_at_call 123;refine(Aan _ _ _ _ hm1 hm2).mono ?_;rintro e w2 ⟨rfl,hb2⟩;obtain⟨hc2,hf2⟩:=Dq hb2))
   go_ret;exact⟨Ar spz,blB⟩
theorem Ac0 (op:Int)(b o cap:Nat)(d f:Stil.Dev)(w:World)(h1:5<=op)(h2:op<=10)(hlt:b<w.heap.size)(hat:Ij w b o d)(dM:Ij w b (o+3) f)(hn1:-9223372036854775808<=d.n)(hn2:d.n<=9223372036854775807)(hm1:-9223372036854775808<=f.n)(hm2:f.n<=9223372036854775807):
  Calls Tryz.prog 103 #[.agg #[.int .i64 op, .slice (some ⟨b,o,none⟩) 2 cap]] w λe w'=>e=.returned (.bool (d.isWhole && f.isWhole || d.isReal && f.isReal))/\Below w.heap.size w w':=by
 obtain⟨c0,c1,c2⟩:=hat;obtain⟨e0,e1,e2⟩:=dM;have hlt1:b<w.heap.size+1:=omz
 have h1':decide (op<1)=false:=by simp;omega
 have h2':decide (10<op)=false:=by simp;omega
 have h3:Stil.arity op=2:=by unfold Stil.arity;rw[if_neg omz,if_neg omz,if_pos omz]
 have h4':decide (op<=2)=false:=by simp;omega
 have h5':decide (op<=4)=false:=by simp;omega
 unfold Stil.Dev.isWhole Stil.Dev.isReal;go_enter Tryz.func103,Tryz.ntmps103
 go_wp2
 go_quiet (exact Calls.quiet_of_same (Jm _ _))
 go_wp2_with (first | (go_at_call 106;refine(Rt _ _ _ _ aqz aqz).mono ?_;rintro e w1 ⟨rfl,hb⟩;obtain⟨hc,hf⟩:=Dq hb;have hz0:w.heap.size<w1.heap.size:=A37 (by first | assumption | (simp;done) | (simp;omega)) hb.size;have hz1:=A37 (by first | assumption | (simp;done) | (simp;omega)) hb.size) | (go_at_call 107;refine(Ut _ _ _ _ aqz aqz).mono ?_;rintro e w1 ⟨rfl,hb⟩;obtain⟨hc,hf⟩:=Dq hb;have hz0:w.heap.size<w1.heap.size:=A37 (by first | assumption | (simp;done) | (simp;omega)) hb.size;have hz1:=A37 (by first | assumption | (simp;done) | (simp;omega)) hb.size))
 all_goals go_ret
 all_goals (refine⟨Ar ?_,blB⟩)
 all_goals go_light
 all_goals simp[*]
theorem Ald (op:Int)(v:Value)(ds:List Stil.Dev)(w:World)(hat:Bi w v ds)(hfit:∀d∈ds,d.fits)(hl:ds.length<=9223372036854775807):
  Calls Tryz.prog 103 #[.agg #[.int .i64 op,v]] w λe w'=>e=.returned (.bool (Ad op ds))/\Below w.heap.size w w':=by
 have hno:∀(h:op<1\/10<op\/(ds.length:Int)≠Stil.arity op),Ad op ds=false->Calls Tryz.prog 103 #[.agg #[.int .i64 op,v]] w λe w'=>e=.returned (.bool (Ad op ds))/\Below w.heap.size w w':=by
  intro h he;obtain⟨a,cap,rfl,_⟩:=hat;rw[he];exact Aeu op a ds.length cap w h hl
 by_cases h1:op<1\/10<op
 ·exact hno omz (by unfold Ad;rw[if_pos h1])
 ·by_cases h2:op<=2
  ·have ha:Stil.arity op=1:=by unfold Stil.arity;rw[if_pos omz]
   match ds,hat,hfit,hl,hno with
   | [],_,_,_,hno=>exact hno (by right;right;simp[ha]) (by unfold Ad;rw[if_neg h1])
   | [d],hat,hfit,_,_=>
    obtain⟨b,o,cap,rfl,hlt,hd⟩:=hat.one;have:=(hfit d spz).2.1
    have e:Ad op [d]=d.isBit:=by unfold Ad;rw[if_neg h1];simp[h2]
    rw[e];exact Acz op b o cap d w omz h2 hlt hd this.1 this.2
   | [d,f],_,_,_,hno=>exact hno (by right;right;simp[ha]) (by unfold Ad;rw[if_neg h1];simp[h2])
   | d::f::g::r,_,_,_,hno=>exact hno (by right;right;simp[ha];omega) (by unfold Ad;rw[if_neg h1])
  ·have ha:Stil.arity op=2:=by unfold Stil.arity;rw[if_neg omz,if_neg omz,if_pos omz]
   match ds,hat,hfit,hl,hno with
   | [],_,_,_,hno=>exact hno (by right;right;simp[ha]) (by unfold Ad;rw[if_neg h1])
   | [d],_,_,_,hno=>exact hno (by right;right;simp[ha]) (by unfold Ad;rw[if_neg h1];simp[h2])
   | [d,f],hat,hfit,_,_=>
    obtain⟨b,o,cap,rfl,hlt,hd,hd2⟩:=hat.two;have k1:=(hfit d spz).2.1;have k2:=(hfit f spz).2.1;by_cases h4:op<=4
    ·have e:Ad op [d,f]=(d.isBit && f.ok && f.kind==5):=by unfold Ad;rw[if_neg h1];simp[h2,h4]
     rw[e];exact Aet op b o cap d f w omz h4 hlt hd hd2 k1.1 k1.2 k2.1 k2.2
    ·have e:Ad op [d,f]=(d.isWhole && f.isWhole || d.isReal && f.isReal):=by unfold Ad;rw[if_neg h1];simp[h2,h4]
     rw[e];exact Ac0 op b o cap d f w omz omz hlt hd hd2 k1.1 k1.2 k2.1 k2.2
   | d::f::g::r,_,_,_,hno=>exact hno (by right;right;simp[ha];omega) (by unfold Ad;rw[if_neg h1])
theorem A2i (op:Int)(b o cap:Nat)(d:Stil.Dev)(r:List Stil.Dev)(w:World)(hlt:b<w.heap.size)(hl:r.length<=100)
  (hat:∀i (h:i<(d::r).length),Ij w b (o+i*3) (d::r)[i]) (hfit:∀x∈d::r,x.fits):
  Calls Tryz.prog 108 #[.agg #[.int .i64 op, .slice (some ⟨b,o,none⟩) (r.length+1) cap]] w λe w'=>e=.returned (.bool (Vt op (d::r)))/\Below w.heap.size w w':=by
 have hlt1:b<w.heap.size+1:=omz
 obtain⟨c0,c1,c2⟩:=hat 0 spz;simp only[Nat.zero_mul,Nat.add_zero,List.getElem_cons_zero] at c0 c1 c2;obtain⟨hn1,hn2⟩:=(hfit d spz).2.1;cases g1:Hw d.kind d.n d.p 9 10
 ·have HD:Hid (Vt op (d::r)=false):=by show _=_;simp only[Vt,Stil.Dev.kindIs,g1];rfl
  clear hat hfit;go_enter Tryz.func108,Tryz.ntmps108
  go_wp2_with (first | (go_at_call 105;refine(Zg _ _ _ _ _ _ hn1 hn2).mono ?_;rintro e w1 ⟨rfl,hb⟩;obtain⟨hc,hf⟩:=Dq hb;have hz0:w.heap.size<w1.heap.size:=A37 (by first | assumption | (simp;done) | (simp;omega)) hb.size;have hz1:=A37 (by first | assumption | (simp;done) | (simp;omega)) hb.size))
  go_ret;exact⟨Ar (by rw[HD.out]),blB⟩
 ·cases g2:d.kind==9
  ·have HD:Hid (Vt op (d::r)=(Ih false r && (op !=35))):=by show _=_;simp only[Vt,Stil.Dev.kindIs,g1,g2];simp
   have HA:=hid hat;have HF:=hid hfit;clear hat hfit;go_enter Tryz.func108,Tryz.ntmps108
   go_wp2_with (first | (go_at_call 105;refine(Zg _ _ _ _ _ _ hn1 hn2).mono ?_;rintro e w1 ⟨rfl,hb⟩;obtain⟨hc,hf⟩:=Dq hb;have hz0:w.heap.size<w1.heap.size:=A37 (by first | assumption | (simp;done) | (simp;omega)) hb.size;have hz1:=A37 (by first | assumption | (simp;done) | (simp;omega)) hb.size))
   clear hc hf hz0 hz1;go_loopw [4] (λi wr=>∃k:Nat,k<=r.length/\i=.int .i64 ((k:Int)+1)/\Ih false r=Ih false (r.drop k)/\Below (w.heap.size+1) (w.alloc (.cells #[.int .i64 op, .slice (some ⟨b,o,none⟩) (r.length+1) cap] 49)) wr) (λi _=>r.length+1 - (intOf i).toNat)
   case atStart=>exact⟨0,omz,rfl,rfl,hb.mono spz⟩
   case round=>
    clear hb;obtain⟨k,hk,rfl,hcr,hB⟩:=hrel;have HC:=hid hcr;clear hcr c0 c1 c2;have hz:w.heap.size<wr.heap.size:=by have:=hB.size;simp at this;omega
    have c0:wr.cell? ⟨w.heap.size,0,none⟩=some (.int .i64 op):=clA hB;have f0:wr.frozen? ⟨w.heap.size,0,none⟩=false:=frA hB;have c1:wr.cell? ⟨w.heap.size,1,none⟩=some (.slice (some ⟨b,o,none⟩) (r.length+1) cap):=clA hB;have f1:wr.frozen? ⟨w.heap.size,1,none⟩=false:=frA hB;have hbw:=(Aa _ _).trans (hB.mono omz);have hz1:=Anw hlt hbw;by_cases hkl:k<r.length
    ·obtain⟨x0,x1,x2⟩:=(HA (k+1) (by simp;omega)).below hbw hlt
     simp only[List.getElem_cons_succ] at x0 x1 x2;obtain⟨hm1,hm2⟩:=(HF r[k] spz).2.1;have HR:Hid (Ih false (r.drop k)=(Iu r[k].kind r[k].n r[k].p && Ih false (r.drop (k+1)))):=by
      show(r.drop k).all _=_
      rw[List.drop_eq_getElem_cons hkl,List.all_cons];rfl
     obtain⟨x,hx⟩:∃x,x=r[k]:=⟨_,rfl⟩
     rw[<-hx] at x0 x1 x2 hm1 hm2 HR;clear hx;cases g3:Iu x.kind x.n x.p
     ·rw[g3] at HR
      go_wp2_with (first | (go_at_call 107;refine(Ut _ _ _ _ hm1 hm2).mono ?_;rintro e w2 ⟨rfl,hb⟩;obtain⟨hc,hf⟩:=Dq hb;have hz0:w.heap.size<w2.heap.size:=A37 (by first | assumption | (simp;done) | (simp;omega)) hb.size;have hz1:=A37 (by first | assumption | (simp;done) | (simp;omega)) hb.size))
      go_ret;exact⟨Ar (by rw[HD.out,HC.out,HR.out];rfl),blB⟩
     ·rw[g3] at HR
      go_wp2_with (first | (go_at_call 107;refine(Ut _ _ _ _ hm1 hm2).mono ?_;rintro e w2 ⟨rfl,hb⟩;obtain⟨hc,hf⟩:=Dq hb;have hz0:w.heap.size<w2.heap.size:=A37 (by first | assumption | (simp;done) | (simp;omega)) hb.size;have hz1:=A37 (by first | assumption | (simp;done) | (simp;omega)) hb.size))
      refine⟨⟨k+1,omz,by go_num,by rw[HC.out,HR.out];rfl,?_⟩,by simp[intOf];omega⟩;exact hB.trans (hb.mono hz)
    ·go_wp2
     go_ret;exact⟨Ar (by rw[HD.out,HC.out,List.drop_of_length_le omz];rfl),blB⟩
  ·have HD:Hid (Vt op (d::r)=Ih true r):=by show _=_;simp only[Vt,Stil.Dev.kindIs,g1,g2];simp
   have HA:=hid hat;have HF:=hid hfit;clear hat hfit;go_enter Tryz.func108,Tryz.ntmps108
   go_wp2_with (first | (go_at_call 105;refine(Zg _ _ _ _ _ _ hn1 hn2).mono ?_;rintro e w1 ⟨rfl,hb⟩;obtain⟨hc,hf⟩:=Dq hb;have hz0:w.heap.size<w1.heap.size:=A37 (by first | assumption | (simp;done) | (simp;omega)) hb.size;have hz1:=A37 (by first | assumption | (simp;done) | (simp;omega)) hb.size))
   clear hc hf hz0 hz1;go_loopw [4] (λi wr=>∃k:Nat,k<=r.length/\i=.int .i64 ((k:Int)+1)/\Ih true r=Ih true (r.drop k)/\Below (w.heap.size+1) (w.alloc (.cells #[.int .i64 op, .slice (some ⟨b,o,none⟩) (r.length+1) cap] 49)) wr) (λi _=>r.length+1 - (intOf i).toNat)
   case atStart=>exact⟨0,omz,rfl,rfl,hb.mono spz⟩
   case round=>
    clear hb;obtain⟨k,hk,rfl,hcr,hB⟩:=hrel;have HC:=hid hcr;clear hcr c0 c1 c2;have hz:w.heap.size<wr.heap.size:=by have:=hB.size;simp at this;omega
    have c0:wr.cell? ⟨w.heap.size,0,none⟩=some (.int .i64 op):=clA hB;have f0:wr.frozen? ⟨w.heap.size,0,none⟩=false:=frA hB;have c1:wr.cell? ⟨w.heap.size,1,none⟩=some (.slice (some ⟨b,o,none⟩) (r.length+1) cap):=clA hB;have f1:wr.frozen? ⟨w.heap.size,1,none⟩=false:=frA hB;have hbw:=(Aa _ _).trans (hB.mono omz);have hz1:=Anw hlt hbw;by_cases hkl:k<r.length
    ·obtain⟨x0,x1,x2⟩:=(HA (k+1) (by simp;omega)).below hbw hlt
     simp only[List.getElem_cons_succ] at x0 x1 x2;obtain⟨hm1,hm2⟩:=(HF r[k] spz).2.1;have HR:Hid (Ih true (r.drop k)=(Hy r[k].kind r[k].n r[k].p && Ih true (r.drop (k+1)))):=by
      show(r.drop k).all _=_
      rw[List.drop_eq_getElem_cons hkl,List.all_cons];rfl
     obtain⟨x,hx⟩:∃x,x=r[k]:=⟨_,rfl⟩
     rw[<-hx] at x0 x1 x2 hm1 hm2 HR;clear hx;cases g3:Hy x.kind x.n x.p
     ·rw[g3] at HR
      go_wp2_with (first | (go_at_call 106;refine(Rt _ _ _ _ hm1 hm2).mono ?_;rintro e w2 ⟨rfl,hb⟩;obtain⟨hc,hf⟩:=Dq hb;have hz0:w.heap.size<w2.heap.size:=A37 (by first | assumption | (simp;done) | (simp;omega)) hb.size;have hz1:=A37 (by first | assumption | (simp;done) | (simp;omega)) hb.size))
      go_ret;exact⟨Ar (by rw[HD.out,HC.out,HR.out];rfl),blB⟩
     ·rw[g3] at HR
      go_wp2_with (first | (go_at_call 106;refine(Rt _ _ _ _ hm1 hm2).mono ?_;rintro e w2 ⟨rfl,hb⟩;obtain⟨hc,hf⟩:=Dq hb;have hz0:w.heap.size<w2.heap.size:=A37 (by first | assumption | (simp;done) | (simp;omega)) hb.size;have hz1:=A37 (by first | assumption | (simp;done) | (simp;omega)) hb.size))
      refine⟨⟨k+1,omz,by go_num,by rw[HC.out,HR.out];rfl,?_⟩,by simp[intOf];omega⟩;exact hB.trans (hb.mono hz)
    ·go_wp2
     go_ret;exact⟨Ar (by rw[HD.out,HC.out,List.drop_of_length_le omz];rfl),blB⟩
theorem Ale (op:Int)(a:Option Addr)(len cap:Nat)(w:World)(h:op<21\/37<op\/(len:Int)≠Stil.arity op)(_hl:len<=9223372036854775807):
  Calls Tryz.prog 80 #[.agg #[.int .i64 op, .slice a len cap]] w λe w'=>e=.returned (.bool false)/\Below w.heap.size w w':=by
 by_cases h1:op<21
 ·have h1':decide (op<21)=true:=by simpa using h1
  go_enter Tryz.func80,Tryz.ntmps80
  go_wp2
  go_quiet (exact Calls.quiet_of_same (Jm _ _))
  go_wp2
  go_ret;exact⟨rfl,below_drewN (Aa _ _) _⟩
 ·have h1':decide (op<21)=false:=by simpa using h1
  by_cases h2:37<op
  ·have h2':decide (37<op)=true:=by simpa using h2
   go_enter Tryz.func80,Tryz.ntmps80
   go_wp2
   go_quiet (exact Calls.quiet_of_same (Jm _ _))
   go_wp2
   go_ret;exact⟨rfl,below_drewN (Aa _ _) _⟩
  ·have h2':decide (37<op)=false:=by simpa using h2
   have h3:((len:Int) !=Stil.arity op)=true:=by rw[bne_iff_ne];omega
   clear h;go_enter Tryz.func80,Tryz.ntmps80
   go_wp2
   go_quiet (exact Calls.quiet_of_same (Jm _ _))
   go_wp2
   go_ret;exact⟨rfl,below_drewN (Aa _ _) _⟩
theorem Aik (op:Int)(b o cap:Nat)(d:Stil.Dev)(w:World)(h1:21<=op)(h2:op<=37)(h3:Stil.arity op=1)(hlt:b<w.heap.size)(hat:Ij w b o d)(hn1:-9223372036854775808<=d.n)(hn2:d.n<=9223372036854775807):
  Calls Tryz.prog 80 #[.agg #[.int .i64 op, .slice (some ⟨b,o,none⟩) 1 cap]] w λe w'=>e=.returned (.bool (Ap op [d]))/\Below w.heap.size w w':=by
 obtain⟨c0,c1,c2⟩:=hat;have hlt1:b<w.heap.size+1:=omz
 have hlt2:b<w.heap.size+1+1:=omz
 have ho:op=21\/op=22\/op=23\/op=25:=by
  unfold Stil.arity at h3;split at h3
  ·omega
  ·split at h3
   ·omega
   ·split at h3<;>omega
 have HD:Hid (Ap op [d]=if op=21 then Hw d.kind d.n d.p 2 3 else if op=22 then Hw d.kind d.n d.p 2 3 || Hw d.kind d.n d.p 4 4 else if op=23 then Hw d.kind d.n d.p 2 3 || Hw d.kind d.n d.p 4 7 || Hw d.kind d.n d.p 8 8 else Hw d.kind d.n d.p 4 4):=by
  show _=_
  unfold Ap;rw[if_neg (by simp[h3];omega)];rfl
 have h1':decide (op<21)=false:=by simp;omega
 have h2':decide (37<op)=false:=by simp;omega
 clear h1 h2;rcases ho with rfl | rfl | rfl | rfl
 all_goals
  go_enter Tryz.func80,Tryz.ntmps80
  go_wp2
  go_quiet (exact Calls.quiet_of_same (Jm _ _))
  go_wp2_with (first | (go_at_call 105;refine(Zg _ _ _ _ _ _ aqz aqz).mono ?_;rintro e w1 ⟨rfl,hb⟩;obtain⟨hc,hf⟩:=Dq hb;have hz0:w.heap.size<w1.heap.size:=A37 (by first | assumption | (simp;done) | (simp;omega)) hb.size;have hz1:w.heap.size+1<w1.heap.size:=A37 (by first | assumption | (simp;done) | (simp;omega)) hb.size;have hz2:=A37 (by first | assumption | (simp;done) | (simp;omega)) hb.size))
  all_goals go_ret
  all_goals (refine⟨Ar ?_,blB⟩)
  all_goals rw[HD.out]
  all_goals go_light
  all_goals simp[*]
theorem Aew (op:Int)(b o cap:Nat)(d f:Stil.Dev)(w:World)(ho:op=24)(hlt:b<w.heap.size)(hat:Ij w b o d)(dM:Ij w b (o+3) f)(hn1:-9223372036854775808<=d.n)(hn2:d.n<=9223372036854775807)(hm1:-9223372036854775808<=f.n)(hm2:f.n<=9223372036854775807):
  Calls Tryz.prog 80 #[.agg #[.int .i64 op, .slice (some ⟨b,o,none⟩) 2 cap]] w λe w'=>e=.returned (.bool (Hw d.kind d.n d.p 2 3 && Hw f.kind f.n f.p 5 5))/\Below w.heap.size w w':=by
 obtain⟨c0,c1,c2⟩:=hat;obtain⟨e0,e1,e2⟩:=dM;have hlt1:b<w.heap.size+1:=omz
 have hlt2:b<w.heap.size+1+1:=omz
 have h3:Stil.arity op=2:=by unfold Stil.arity;rw[if_neg omz,if_neg omz,if_pos omz]
 have h1':decide (op<21)=false:=by simp;omega
 have h2':decide (37<op)=false:=by simp;omega
 subst ho;all_goals
  go_enter Tryz.func80,Tryz.ntmps80
  go_wp2
  go_quiet (exact Calls.quiet_of_same (Jm _ _))
  go_wp2_with (first | (go_at_call 105;refine(Zg _ _ _ _ _ _ aqz aqz).mono ?_;rintro e w1 ⟨rfl,hb⟩;obtain⟨hc,hf⟩:=Dq hb;have hz0:w.heap.size<w1.heap.size:=A37 (by first | assumption | (simp;done) | (simp;omega)) hb.size;have hz1:w.heap.size+1<w1.heap.size:=A37 (by first | assumption | (simp;done) | (simp;omega)) hb.size;have hz2:=A37 (by first | assumption | (simp;done) | (simp;omega)) hb.size))
  all_goals go_ret
  all_goals (refine⟨Ar ?_,blB⟩)
  all_goals go_light
  all_goals simp[*]
theorem Sz (op:Int)(b o cap:Nat)(d f:Stil.Dev)(w:World)(ho:op=26\/op=27\/op=28)(hlt:b<w.heap.size)(hat:Ij w b o d)(dM:Ij w b (o+3) f)(hn1:-9223372036854775808<=d.n)(hn2:d.n<=9223372036854775807)(hm1:-9223372036854775808<=f.n)(hm2:f.n<=9223372036854775807):
  Calls Tryz.prog 80 #[.agg #[.int .i64 op, .slice (some ⟨b,o,none⟩) 2 cap]] w λe w'=>e=.returned (.bool (Hw d.kind d.n d.p 7 7 && Hw f.kind f.n f.p 11 11 && decide (0<=f.n)))/\Below w.heap.size w w':=by
 obtain⟨c0,c1,c2⟩:=hat;obtain⟨e0,e1,e2⟩:=dM;have hlt1:b<w.heap.size+1:=omz
 have hlt2:b<w.heap.size+1+1:=omz
 have h3:Stil.arity op=2:=by unfold Stil.arity;rw[if_neg omz,if_neg omz,if_pos omz]
 have h1':decide (op<21)=false:=by simp;omega
 have h2':decide (37<op)=false:=by simp;omega
 rcases ho with rfl | rfl | rfl
 all_goals
  go_enter Tryz.func80,Tryz.ntmps80
  go_wp2
  go_quiet (exact Calls.quiet_of_same (Jm _ _))
  go_wp2_with (first | (go_at_call 105;refine(Zg _ _ _ _ _ _ aqz aqz).mono ?_;rintro e w1 ⟨rfl,hb⟩;obtain⟨hc,hf⟩:=Dq hb;have hz0:w.heap.size<w1.heap.size:=A37 (by first | assumption | (simp;done) | (simp;omega)) hb.size;have hz1:w.heap.size+1<w1.heap.size:=A37 (by first | assumption | (simp;done) | (simp;omega)) hb.size;have hz2:=A37 (by first | assumption | (simp;done) | (simp;omega)) hb.size))
  all_goals go_ret
  all_goals (refine⟨Ar ?_,blB⟩)
  all_goals go_light
  all_goals simp[*]
theorem Aex (op:Int)(b o cap:Nat)(d f:Stil.Dev)(w:World)(ho:op=29)(hlt:b<w.heap.size)(hat:Ij w b o d)(dM:Ij w b (o+3) f)(hn1:-9223372036854775808<=d.n)(hn2:d.n<=9223372036854775807)(hm1:-9223372036854775808<=f.n)(hm2:f.n<=9223372036854775807):
  Calls Tryz.prog 80 #[.agg #[.int .i64 op, .slice (some ⟨b,o,none⟩) 2 cap]] w λe w'=>e=.returned (.bool (Hw d.kind d.n d.p 8 8 && Hw f.kind f.n f.p 11 11 && decide (0<=f.n)))/\Below w.heap.size w w':=by
 obtain⟨c0,c1,c2⟩:=hat;obtain⟨e0,e1,e2⟩:=dM;have hlt1:b<w.heap.size+1:=omz
 have hlt2:b<w.heap.size+1+1:=omz
 have h3:Stil.arity op=2:=by unfold Stil.arity;rw[if_neg omz,if_neg omz,if_pos omz]
 have h1':decide (op<21)=false:=by simp;omega
 have h2':decide (37<op)=false:=by simp;omega
 subst ho;all_goals
  go_enter Tryz.func80,Tryz.ntmps80
  go_wp2
  go_quiet (exact Calls.quiet_of_same (Jm _ _))
  go_wp2_with (first | (go_at_call 105;refine(Zg _ _ _ _ _ _ aqz aqz).mono ?_;rintro e w1 ⟨rfl,hb⟩;obtain⟨hc,hf⟩:=Dq hb;have hz0:w.heap.size<w1.heap.size:=A37 (by first | assumption | (simp;done) | (simp;omega)) hb.size;have hz1:w.heap.size+1<w1.heap.size:=A37 (by first | assumption | (simp;done) | (simp;omega)) hb.size;have hz2:=A37 (by first | assumption | (simp;done) | (simp;omega)) hb.size))
  all_goals go_ret
  all_goals (refine⟨Ar ?_,blB⟩)
  all_goals go_light
  all_goals simp[*]
theorem Agq (op:Int)(b o cap:Nat)(d f:Stil.Dev)(w:World)(ho:op=36)(hlt:b<w.heap.size)(hat:Ij w b o d)(dM:Ij w b (o+3) f)(hn1:-9223372036854775808<=d.n)(hn2:d.n<=9223372036854775807)(hm1:-9223372036854775808<=f.n)(hm2:f.n<=9223372036854775807):
  Calls Tryz.prog 80 #[.agg #[.int .i64 op, .slice (some ⟨b,o,none⟩) 2 cap]] w λe w'=>e=.returned (.bool (Hw d.kind d.n d.p 10 10 && Hy f.kind f.n f.p))/\Below w.heap.size w w':=by
 obtain⟨c0,c1,c2⟩:=hat;obtain⟨e0,e1,e2⟩:=dM;have hlt1:b<w.heap.size+1:=omz
 have hlt2:b<w.heap.size+1+1:=omz
 have h3:Stil.arity op=2:=by unfold Stil.arity;rw[if_neg omz,if_neg omz,if_pos omz]
 have h1':decide (op<21)=false:=by simp;omega
 have h2':decide (37<op)=false:=by simp;omega
 subst ho;all_goals
  go_enter Tryz.func80,Tryz.ntmps80
  go_wp2
  go_quiet (exact Calls.quiet_of_same (Jm _ _))
  go_wp2_with (first | (go_at_call 105;refine(Zg _ _ _ _ _ _ aqz aqz).mono ?_;rintro e w1 ⟨rfl,hb⟩;obtain⟨hc,hf⟩:=Dq hb;have hz0:w.heap.size<w1.heap.size:=A37 (by first | assumption | (simp;done) | (simp;omega)) hb.size;have hz1:w.heap.size+1<w1.heap.size:=A37 (by first | assumption | (simp;done) | (simp;omega)) hb.size;have hz2:=A37 (by first | assumption | (simp;done) | (simp;omega)) hb.size) | (go_at_call 106;refine(Rt _ _ _ _ aqz aqz).mono ?_;rintro e w1 ⟨rfl,hb⟩;obtain⟨hc,hf⟩:=Dq hb;have hz0:w.heap.size<w1.heap.size:=A37 (by first | assumption | (simp;done) | (simp;omega)) hb.size;have hz1:w.heap.size+1<w1.heap.size:=A37 (by first | assumption | (simp;done) | (simp;omega)) hb.size;have hz2:=A37 (by first | assumption | (simp;done) | (simp;omega)) hb.size))
  all_goals go_ret
  all_goals (refine⟨Ar ?_,blB⟩)
  all_goals go_light
  all_goals simp[*]
theorem Aev (op:Int)(b o cap:Nat)(d f:Stil.Dev)(w:World)(ho:op=37)(hlt:b<w.heap.size)(hat:Ij w b o d)(dM:Ij w b (o+3) f)(hn1:-9223372036854775808<=d.n)(hn2:d.n<=9223372036854775807)(hm1:-9223372036854775808<=f.n)(hm2:f.n<=9223372036854775807):
  Calls Tryz.prog 80 #[.agg #[.int .i64 op, .slice (some ⟨b,o,none⟩) 2 cap]] w λe w'=>e=.returned (.bool (Hw d.kind d.n d.p 9 9 && Iu f.kind f.n f.p))/\Below w.heap.size w w':=by
 obtain⟨c0,c1,c2⟩:=hat;obtain⟨e0,e1,e2⟩:=dM;have hlt1:b<w.heap.size+1:=omz
 have hlt2:b<w.heap.size+1+1:=omz
 have h3:Stil.arity op=2:=by unfold Stil.arity;rw[if_neg omz,if_neg omz,if_pos omz]
 have h1':decide (op<21)=false:=by simp;omega
 have h2':decide (37<op)=false:=by simp;omega
 subst ho;all_goals
  go_enter Tryz.func80,Tryz.ntmps80
  go_wp2
  go_quiet (exact Calls.quiet_of_same (Jm _ _))
  go_wp2_with (first | (go_at_call 105;refine(Zg _ _ _ _ _ _ aqz aqz).mono ?_;rintro e w1 ⟨rfl,hb⟩;obtain⟨hc,hf⟩:=Dq hb;have hz0:w.heap.size<w1.heap.size:=A37 (by first | assumption | (simp;done) | (simp;omega)) hb.size;have hz1:w.heap.size+1<w1.heap.size:=A37 (by first | assumption | (simp;done) | (simp;omega)) hb.size;have hz2:=A37 (by first | assumption | (simp;done) | (simp;omega)) hb.size) | (go_at_call 107;refine(Ut _ _ _ _ aqz aqz).mono ?_;rintro e w1 ⟨rfl,hb⟩;obtain⟨hc,hf⟩:=Dq hb;have hz0:w.heap.size<w1.heap.size:=A37 (by first | assumption | (simp;done) | (simp;omega)) hb.size;have hz1:w.heap.size+1<w1.heap.size:=A37 (by first | assumption | (simp;done) | (simp;omega)) hb.size;have hz2:=A37 (by first | assumption | (simp;done) | (simp;omega)) hb.size))
  all_goals go_ret
  all_goals (refine⟨Ar ?_,blB⟩)
  all_goals go_light
  all_goals simp[*]
theorem Zh (op:Int)(b o cap:Nat)(d:Stil.Dev)(r:List Stil.Dev)(w:World)(ho:30<=op/\op<=35)(ha:Stil.arity op=(r.length:Int)+1)(hlt:b<w.heap.size)
  (hat:∀i (h:i<(d::r).length),Ij w b (o+i*3) (d::r)[i]) (hfit:∀x∈d::r,x.fits):
  Calls Tryz.prog 80 #[.agg #[.int .i64 op, .slice (some ⟨b,o,none⟩) (r.length+1) cap]] w λe w'=>e=.returned (.bool (Vt op (d::r)))/\Below w.heap.size w w':=by
 obtain⟨c0,c1,c2⟩:=hat 0 spz;simp only[Nat.zero_mul,Nat.add_zero,List.getElem_cons_zero] at c0 c1 c2;have hl:r.length<=100:=by
  have:Stil.arity op<=3:=by unfold Stil.arity;split<;>(try split)<;>(try split)<;>omega
  omega
 have HA:Hid (∀W,Below w.heap.size w W->∀i (h:i<(d::r).length),Ij W b (o+i*3) (d::r)[i]):=λW hW i h=>(hat i h).below hW hlt
 have HF:=hid hfit;have h1':decide (op<21)=false:=by simp;omega
 have h2':decide (37<op)=false:=by simp;omega
 have hne:(op==21)=false/\(op==22)=false/\(op==23)=false/\(op==24)=false/\(op==25)=false/\(op==26)=false/\(op==27)=false/\(op==28)=false/\(op==29)=false/\(op==36)=false/\(op==37)=false:=by
  simp only[A5a];omega
 obtain⟨n1,n2,n3,n4,n5,n6,n7,n8,n9,n10,n11⟩:=hne;have h3:(((r.length:Int)+1) !=Stil.arity op)=false:=by rw[ha];simp
 clear hat hfit ho ha;go_enter Tryz.func80,Tryz.ntmps80
 go_wp2
 go_quiet (exact Calls.quiet_of_same (Jm _ _))
 go_wp2_with (first | (go_at_call 108;refine(A2i op b o cap d r _ (by simp;omega) hl (HA _ blB) HF.out).mono ?_;rintro e w1 ⟨rfl,hb⟩))
 go_ret;exact⟨rfl,blB⟩
theorem Ana {op:Int}(h1:21<=op)(h2:op<=37):(Stil.arity op=1/\(op=21\/op=22\/op=23\/op=25))\/(Stil.arity op=2/\(op=24\/op=26\/op=27\/op=28\/op=29\/op=30\/op=36\/op=37))\/(Stil.arity op=3/\31<=op/\op<=35):=by
 unfold Stil.arity;by_cases a:op=1\/op=2\/op=21\/op=22\/op=23\/op=25
 ·rw[if_pos a];left;exact⟨rfl,omz⟩
 ·rw[if_neg a]
  by_cases b:31<=op/\op<=35
  ·rw[if_pos b];right;right;exact⟨rfl,b⟩
  ·rw[if_neg b,if_pos omz];right;left;exact⟨rfl,omz⟩
theorem Bi.cons {w:World}{d:Stil.Dev}{r:List Stil.Dev}(h:Bi w v (d::r)):∃b o cap,v=.slice (some ⟨b,o,none⟩) (r.length+1) cap/\b<w.heap.size/\∀i (hi:i<(d::r).length),Ij w b (o+i*3) (d::r)[i]:=by
 obtain⟨a,cap,hv,hc⟩:=h;obtain⟨b,o,rfl,hlt,_⟩:=hc 0 spz;refine⟨b,o,cap,hv,hlt,λi hi=>?_⟩;obtain⟨b',o',e1,_,hd'⟩:=hc i hi;simp only[Option.some.injEq,Addr.mk.injEq,and_true] at e1;obtain⟨rfl,rfl⟩:=e1;exact hd'
theorem Axh (op:Int)(v:Value)(ds:List Stil.Dev)(w:World)(hat:Bi w v ds)(hfit:∀d∈ds,d.fits)(hl:ds.length<=9223372036854775807):
  Calls Tryz.prog 80 #[.agg #[.int .i64 op,v]] w λe w'=>e=.returned (.bool (Ap op ds))/\Below w.heap.size w w':=by
 by_cases h:op<21\/37<op\/(ds.length:Int)≠Stil.arity op
 ·have e:Ap op ds=false:=by unfold Ap;rw[if_pos h]
  obtain⟨a,cap,rfl,_⟩:=hat;rw[e];exact Ale op a ds.length cap w h hl
 ·have h1:21<=op:=by omega
  have h2:op<=37:=omz
  have h3:(ds.length:Int)=Stil.arity op:=omz
  rcases Ana h1 h2 with⟨ha,ho⟩ | ⟨ha,ho⟩ | ⟨ha,ho⟩
  ·match ds,hat,hfit,h,h3 with
   | [],_,_,_,h3=>rw[ha] at h3;simp at h3
   | [d],hat,hfit,h,h3=>
    obtain⟨b,o,cap,rfl,hlt,hd⟩:=hat.one;have k1:=(hfit d spz).2.1;exact Aik op b o cap d w h1 h2 ha hlt hd k1.1 k1.2
   | d::f::r,_,_,_,h3=>rw[ha] at h3;simp at h3;omega
  ·match ds,hat,hfit,h,h3 with
   | [],_,_,_,h3=>rw[ha] at h3;simp at h3
   | [d],_,_,_,h3=>rw[ha] at h3;simp at h3
   | [d,f],hat,hfit,h,h3=>
    by_cases h30:op=30
    ·obtain⟨b,o,cap,hv,hlt,hd⟩:=hat.cons
     have e:Ap op [d,f]=Vt op [d,f]:=by
      unfold Ap;rw[if_neg h];simp[h30]
     rw[e,hv];exact Zh op b o cap d [f] w omz (by rw[ha];rfl) hlt hd hfit
    ·obtain⟨b,o,cap,rfl,hlt,hd,hd2⟩:=hat.two
     have k1:=(hfit d spz).2.1;have k2:=(hfit f spz).2.1;rcases ho with rfl | rfl | rfl | rfl | rfl | rfl | rfl | rfl
     ·have e:Ap 24 [d,f]=(Hw d.kind d.n d.p 2 3 && Hw f.kind f.n f.p 5 5):=by unfold Ap;rw[if_neg h];rfl
      rw[e];exact Aew 24 b o cap d f w rfl hlt hd hd2 k1.1 k1.2 k2.1 k2.2
     ·have e:Ap 26 [d,f]=(Hw d.kind d.n d.p 7 7 && Hw f.kind f.n f.p 11 11 && decide (0<=f.n)):=by unfold Ap;rw[if_neg h];rfl
      rw[e];exact Sz 26 b o cap d f w omz hlt hd hd2 k1.1 k1.2 k2.1 k2.2
     ·have e:Ap 27 [d,f]=(Hw d.kind d.n d.p 7 7 && Hw f.kind f.n f.p 11 11 && decide (0<=f.n)):=by unfold Ap;rw[if_neg h];rfl
      rw[e];exact Sz 27 b o cap d f w omz hlt hd hd2 k1.1 k1.2 k2.1 k2.2
     ·have e:Ap 28 [d,f]=(Hw d.kind d.n d.p 7 7 && Hw f.kind f.n f.p 11 11 && decide (0<=f.n)):=by unfold Ap;rw[if_neg h];rfl
      rw[e];exact Sz 28 b o cap d f w omz hlt hd hd2 k1.1 k1.2 k2.1 k2.2
     ·have e:Ap 29 [d,f]=(Hw d.kind d.n d.p 8 8 && Hw f.kind f.n f.p 11 11 && decide (0<=f.n)):=by unfold Ap;rw[if_neg h];rfl
      rw[e];exact Aex 29 b o cap d f w rfl hlt hd hd2 k1.1 k1.2 k2.1 k2.2
     ·exact absurd rfl h30
     ·have e:Ap 36 [d,f]=(Hw d.kind d.n d.p 10 10 && Hy f.kind f.n f.p):=by unfold Ap;rw[if_neg h];rfl
      rw[e];exact Agq 36 b o cap d f w rfl hlt hd hd2 k1.1 k1.2 k2.1 k2.2
     ·have e:Ap 37 [d,f]=(Hw d.kind d.n d.p 9 9 && Iu f.kind f.n f.p):=by unfold Ap;rw[if_neg h];rfl
      rw[e];exact Aev 37 b o cap d f w rfl hlt hd hd2 k1.1 k1.2 k2.1 k2.2
   | d::f::g::r,_,_,_,h3=>rw[ha] at h3;simp at h3;omega
  ·match ds,hat,hfit,h,h3 with
   | [],_,_,_,h3=>rw[ha] at h3;simp at h3
   | [d],_,_,_,h3=>rw[ha] at h3;simp at h3
   | [d,f],_,_,_,h3=>rw[ha] at h3;simp at h3
   | d::f::g::r,hat,hfit,h,h3=>
    obtain⟨b,o,cap,hv,hlt,hd⟩:=hat.cons;have e:Ap op (d::f::g::r)=Vt op (d::f::g::r):=by
     unfold Ap;rw[if_neg h]
    rw[e,hv];exact Zh op b o cap d (f::g::r) w omz (by rw[<-h3];simp) hlt hd hfit
end Go.Proofs.YtbfljjcnbbmoaaaGreatDoor
