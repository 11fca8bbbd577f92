import Derived.Test.YtifcnfeppdbjdaaGreatDoorHn
set_option maxHeartbeats 4000000
set_option maxRecDepth 100000
namespace Go.Proofs.YtifcnfeppdbjdaaGreatDoor
open Tryz Stil Go.RowKit Go.Sort Go.BigFrame
theorem Azm (s:Stil.Pt)(c:Int)(w:World)(g:s.good):
  Calls prog 66 #[.agg #[AB s.bits,AB s.forks, .bool s.seen, .bool s.coil],AB c] w (AN w (.agg #[AB (Stil.behind s c).bits,AB (Stil.behind s c).forks, .bool (Stil.behind s c).seen, .bool (Stil.behind s c).coil])):=by
 obtain⟨b,f,a,d⟩:=s;obtain⟨m,k,o,r,_⟩:=g;simp only at m k o r ⊢;have l:Hid (∀W,Calls prog 55 #[.agg #[AB b,AB f],AB c] W (AN W (.agg #[AB (Stil.behind ⟨b,f,a,d⟩ c).bits,AB (Stil.behind ⟨b,f,a,d⟩ c).forks]))):=λW=>Wg b f c W AQ AQ AQ AQ
 have B:Hid ((Stil.behind ⟨b,f,a,d⟩ c).seen=(decide (c≠11) && (a || c==10 || c==7))):=rfl;have z:Hid ((Stil.behind ⟨b,f,a,d⟩ c).coil=(c==10)):=rfl;obtain⟨x,q⟩:∃x:Int,x=(Stil.behind ⟨b,f,a,d⟩ c).bits:=⟨_,rfl⟩
 obtain⟨y,j⟩:∃y:Int,y=(Stil.behind ⟨b,f,a,d⟩ c).forks:=⟨_,rfl⟩
 rw[<-q,<-j] at l ⊢;obtain⟨u,hu⟩:∃u:Bool,u=(Stil.behind ⟨b,f,a,d⟩ c).seen:=⟨_,rfl⟩
 obtain⟨v,A⟩:∃v:Bool,v=(Stil.behind ⟨b,f,a,d⟩ c).coil:=⟨_,rfl⟩
 rw[<-hu] at B ⊢;rw[<-A] at z ⊢;clear q j hu A m k o r;cases a
 all_goals (
  go_enter func66,ntmps66
  go_wp2_with (go_at_call 55;refine(l _).mono ?_;rintro e C ⟨rfl,t⟩;have E:w.heap.size<C.heap.size:=CB BX t.size;obtain⟨D,F⟩:=Ef t))
 all_goals refine bodyPost_ret (by simp[results,results66,go_sem,D];rfl) rfl ⟨?_,AW⟩
 all_goals (rw[B.out,z.out];go_light;(try simp only[EC,CS,bne_iff_ne,bne_eq_false_iff_eq] at*);simp[*])
def Hj (k:Nat):Nat:=[100,101,102,103,104,105,106].getD k 0
def Vg (w:World)(g:Nat):Prop:=g<w.heap.size/\∀k:Nat,k<7->w.cell? ⟨g,k*2,none⟩=some (AB (k+2:Nat))/\w.cell? ⟨g,k*2+1,none⟩=some (.func (.func (Hj k)) #[] #[])
theorem Vg.below {w w':World}{g:Nat}(h:Vg w g)(a:AO w w'):Vg w' g:=
 ⟨CB h.1 a.size,λk b=>⟨(a.cell (p:=(AK g (k*2))) h.1).trans (h.2 k b).1,(a.cell (p:=(AK g (k*2+1))) h.1).trans (h.2 k b).2⟩⟩
theorem vf (w:World):Calls prog 65 #[] w λe a=>∃g,e=.returned (AE (some (AK g 0)) 7 7)/\Vg a g/\AO w a:=by
 go_enter func65,ntmps65
 go_wp2
 go_ret;refine⟨w.heap.size,rfl,⟨AU,λk c=>?_⟩,AW⟩;have b:k=0\/k=1\/k=2\/k=3\/k=4\/k=5\/k=6:=AQ
 rcases b with rfl | rfl | rfl | rfl | rfl | rfl | rfl
 all_goals simp[go_sem,Hj]
theorem qN (w:World):Calls prog 33 #[.nilIface] w (AN w (.agg #[AB 0,AB 0])):=by
 go_enter func33,ntmps33
 go_wp2
 refine bodyPost_ret (v:=.agg #[AB 0,AB 0]) (by simp[results,results33,go_sem]) rfl ⟨rfl,AW⟩
theorem yT (c k:Int)(w:World):Calls prog 33 #[.iface 38 (.agg #[AB c,AB k])] w (AN w (.agg #[AB c,AB k])):=by
 have b:∀(v:Value) (w:World),(Instr.typeAssert (.iface 38 v) 20 38 false).run prog w=.ok v w:=λ_ _=>by kernel_rfl
 go_enter func33,ntmps33
 go_wp2
 refine bodyPost_ret (v:=.agg #[AB c,AB k]) (by simp[results,results33,go_sem]) rfl ⟨rfl,AW⟩
def endOf (R:Int × Nat):Ending:=if 0<R.1 then .panicked [{v:=.iface 38 (.agg #[AB R.1,AB R.2]),recovered:=false}] else .returned (.tuple #[])
theorem wv (s:Stil.Pt)(x:Stil.Io)(p:Option Addr)(cap:Nat)(w:World)(hr:Et w)(d:Ji w)(b:Dk w (AE p x.one.args.length cap) x.one.args)(a:x.fits)(k:Nat)(g:k<7):
  Calls prog (Hj k) #[.agg #[AB s.bits,AB s.forks, .bool s.seen, .bool s.coil], .agg #[AB x.code,AB x.one.op,AE p x.one.args.length cap]] w (AN w (.bool (Stil.rule k s x))):=by
 have c:k=0\/k=1\/k=2\/k=3\/k=4\/k=5\/k=6:=AQ
 rcases c with rfl | rfl | rfl | rfl | rfl | rfl | rfl
 ·exact lP s.bits s.forks s.seen s.coil x _ w hr d b a
 ·exact lO s.bits s.forks s.seen s.coil x _ _ _ w
 ·exact lN s.bits s.forks s.seen s.coil x _ _ _ w
 ·exact lK s.bits s.forks s.seen s.coil x _ _ _ w
 ·exact lG s.bits s.forks s.seen s.coil x _ _ _ w
 ·exact lE s.bits s.forks s.seen s.coil x _ _ _ w
 ·exact lC s.bits s.forks s.seen s.coil x _ _ _ w
theorem ZY (k:Nat)(b:k<7)(args:Array Value)(W:World):Sem.run prog (callFunc (Hj k) args) W=.ok (.enter (Hj k) args) W:=by
 have a:k=0\/k=1\/k=2\/k=3\/k=4\/k=5\/k=6:=AQ
 rcases a with rfl | rfl | rfl | rfl | rfl | rfl | rfl
 ·exact(show Sem.run prog (callFunc 100 args) W=.ok (.enter 100 args) W by kernel_rfl)
 ·exact(show Sem.run prog (callFunc 101 args) W=.ok (.enter 101 args) W by kernel_rfl)
 ·exact(show Sem.run prog (callFunc 102 args) W=.ok (.enter 102 args) W by kernel_rfl)
 ·exact(show Sem.run prog (callFunc 103 args) W=.ok (.enter 103 args) W by kernel_rfl)
 ·exact(show Sem.run prog (callFunc 104 args) W=.ok (.enter 104 args) W by kernel_rfl)
 ·exact(show Sem.run prog (callFunc 105 args) W=.ok (.enter 105 args) W by kernel_rfl)
 ·exact(show Sem.run prog (callFunc 106 args) W=.ok (.enter 106 args) W by kernel_rfl)
theorem Vg.set {w:World}{g b o:Nat}(h:Vg w g)(c:g≠b)(v:Value):Vg (w.setCell (AK b o) v) g:=
 ⟨CB h.1 (I7 _ _ _),λk a=>⟨(Bj c).trans (h.2 k a).1,(Bj c).trans (h.2 k a).2⟩⟩
theorem Azk (l:List Stil.Io)(v:Value)(w:World)(hr:Et w)(hw:Ji w)(ar:Hw w v l)(hl:l.length<=1048576)(ai:∀x∈l,x.fits):
  Calls prog 34 #[v] w λe u=>e=endOf (Ee l)/\AO w u:=by
 have HF:Hid (∀x∈l,x.fits):=ai;have av:Hid (∀W,AO w W->Et W/\Ji W):=λW h=>⟨hr.below h,hw.below h⟩
 obtain⟨a,cap,rfl,hc⟩:=ar;have HC:Hid (∀i (h:i<l.length),∃b o,a=some (AK b o)/\b<w.heap.size/\JA w b (o+i*3) l[i]):=hc;obtain⟨t,J⟩:=AA l.length
 have fE:Hid (t=l.length):=J;have K:Hid (Ee l=if 1000<t then(1,0) else F8 Stil.pt0 0 l):=by show _=_;rw[J];rfl
 rw[<-J] at hl ⊢;obtain⟨R,hR⟩:=AA (Ee l)
 rw[<-hR] at K ⊢;clear hc ai J hR hr hw;by_cases h1:1000<t
 ·have f:Hid (R=(1,0)):=by show _=_;rw[K.out,if_pos h1]
  go_enter func34,ntmps34
  go_wp2
  exact⟨rfl,by rw[f.out];rfl,Below.refl _ _⟩
 ·have f:Hid (R=F8 Stil.pt0 0 l):=by show _=_;rw[K.out,if_neg h1]
  clear K;go_enter func34,ntmps34
  go_wp2_with (go_at_call 65;refine(vf _).mono ?_;rintro e B ⟨g,rfl,A,af⟩)
  go_loopw [16] (λi wr=>∃(j:Nat) (s:Stil.Pt),j<=t/\i=AB j/\s.good/\R=F8 s j (l.drop j)/\F3 wr B.heap.size s/\Vg wr g/\AO w wr) (λi _=>t - (intOf i).toNat)
  case atStart=>
   refine⟨0,Stil.pt0,AQ,rfl,NE,by rw[f.out];rfl,?_,?_,?_⟩
   ·refine⟨AU,?_,?_,?_,?_,?_,?_,?_,?_⟩
    all_goals simp[go_sem,Stil.pt0]
   ·exact A.below (Aa _ _)
   ·exact AW
  case round=>
   have aD:g<B.heap.size:=A.1;have E:w.heap.size<=B.heap.size:=af.size;clear f A af;obtain⟨j,s,hj,rfl,hg,ae,T,A,m⟩:=hrel;have V:Hid (R=F8 s j (l.drop j)):=ae;have z:Hid (s.good):=hg;have ac:Hid (F3 wr B.heap.size s):=T;have ah:Hid (Vg wr g):=A;clear ae hg;by_cases aB:j<t
   ·have M:j<l.length:=by have:=fE.out;omega
    obtain⟨b,o,rfl,az,hn⟩:=HC j M;obtain⟨x0,x1,uV,x2,P⟩:=hn.below m az;have X:Hid (R=if 0<Stil.wrong s l[j] then(Stil.wrong s l[j],j) else F8 (Stil.next s l[j].code) (j+1) (l.drop (j+1))):=by show _=_;rw[V.out,qR l s j M]
    have O:Hid (∀p cap,uV=.slice p l[j].one.args.length cap->∀k,k<7->∀W,AO wr W->Calls prog (Hj k) #[.agg #[AB s.bits,AB s.forks, .bool s.seen, .bool s.coil], .agg #[AB l[j].code,AB l[j].one.op, .slice p l[j].one.args.length cap]] W (AN W (.bool (Stil.rule k s l[j])))):=by
     intro p cap hk k y W hW;subst hk;have h2:=av W (m.trans (hW.mono m.size));exact wv s l[j] p cap W h2.1 h2.2 (P.below hW) (HF _ (CN M)) k y
    obtain⟨x,hx⟩:=AA (l[j])
    rw[<-hx] at X O x0 x1 P;obtain⟨D,C,rfl,_⟩:=P;have Z:=O D C rfl;have aj:Hid (∀k,k<7->∀W,AO wr W->Calls prog (Hj k) #[.agg #[AB s.bits,AB s.forks, .bool s.seen, .bool s.coil], .agg #[AB x.code,AB x.one.op,AE D x.one.args.length C]] W (AN W (.bool (Stil.rule k s x)))):=Z;clear hx hn V O Z T A;obtain⟨c,ak⟩:∃c:World,c=wr:=⟨wr,rfl⟩
    subst ak
    go_wp2
    go_loopw [23] (λi2 wr=>∃k:Nat,k<=7/\i2=AB k/\(∀q,q<k->Stil.rule q s x=false)/\Below (c.heap.size+1) (c.alloc (.cells #[AB x.code,AB x.one.op,AE D x.one.args.length C] 53)) wr) (λi _=>7 - (intOf i).toNat)
    case atStart=>exact⟨0,AQ,rfl,λq h=>absurd h AQ,by simpa using Below.refl _ _⟩
    case round=>
     obtain⟨k,hk,rfl,aa,r⟩:=hrel;have Y:Hid (∀q,q<k->Stil.rule q s x=false):=aa;have d:AO c wr:=(Aa _ _).trans (r.mono AQ);obtain⟨aw,p0,p1,p2,p3,z0,z1,z2,z3⟩:=ac.below d;have hz:c.heap.size<wr.heap.size:=by have:=r.size;simp at this;omega
     have c0:wr.cell? (AL c 0)=some (AB x.code):=A3 r;have f0:wr.frozen? (AL c 0)=false:=A5 r;have c1:wr.cell? (AL c 1)=some (AB x.one.op):=A3 r;have f1:wr.frozen? (AL c 1)=false:=A5 r;have c2:wr.cell? (AL c 2)=some (AE D x.one.args.length C):=A3 r;have f2:wr.frozen? (AL c 2)=false:=A5 r;clear aa;by_cases y:k<7
     ·obtain⟨aC,ag⟩:=ah.below d
      obtain⟨m0,m1⟩:=ag k y;have U:Hid (∀W,AO c W->Calls prog (Hj k) #[.agg #[AB s.bits,AB s.forks, .bool s.seen, .bool s.coil], .agg #[AB x.code,AB x.one.op,AE D x.one.args.length C]] W (AN W (.bool (Stil.rule k s x)))):=aj k y;obtain⟨H,L⟩:=AA (Stil.rule k s x)
      rw[<-L] at U;have oP:Hid (Stil.rule k s x=H):=L.symm;clear ag L;cases H
      ·have al:=ZY k y
       go_wp2_with (refine(U _ (d.trans ((Aa _ _).mono d.size))).mono ?_;rintro e w4 ⟨rfl,F⟩)
       have dO:Hid (∀q,q<k+1->Stil.rule q s x=false):=λq hq=>if h:q=k then by rw[h];exact oP else Y q AQ
       exact⟨⟨k+1,AQ,by go_num,dO.out,r.trans (((Aa _ _).trans (F.mono AU)).mono hz)⟩,by simp[intOf];omega⟩
      ·have al:=ZY k y
       have f:Hid (R=((k:Int)+2,j)):=by
        have aA:=tB z k y Y oP.out;show _=_
        rw[X.out,aA,if_pos AQ];simp
       go_wp2_with (refine(U _ (d.trans ((Aa _ _).mono d.size))).mono ?_;rintro e w4 ⟨rfl,F⟩;have v0:w4.cell? (AL wr 0)=some (AB ((k:Int)+2)):=(A3 F))
       refine⟨rfl,?_,m.trans ((d.trans (((Aa _ _).trans (F.mono AU)).mono d.size)).mono m.size)⟩;rw[f.out];unfold endOf;rw[if_pos (by show(0:Int)<(k:Int)+2;omega)]
     ·obtain rfl:k=7:=by omega
      have I:Stil.wrong s x=0:=xA z Y.out;have f:Hid (R=F8 (Stil.next s x.code) (j+1) (l.drop (j+1))):=by show _=_;rw[X.out,I,if_neg AQ]
      have ao:Hid (Stil.next s x.code).good:=YE z I;have ay:Hid (∀W,Calls prog 66 #[.agg #[AB s.bits,AB s.forks, .bool s.seen, .bool s.coil],AB x.code] W (AN W (.agg #[AB (Stil.next s x.code).bits,AB (Stil.next s x.code).forks, .bool (Stil.next s x.code).seen, .bool (Stil.next s x.code).coil]))):=by
       intro W;have:=Azm s x.code W z.out
       rwa [Stil.behind_next z.out I] at this
      clear I
      go_wp2_with (go_at_call 66;refine(ay _).mono ?_;rintro e S ⟨rfl,Q⟩;have au:F3 S B.heap.size s:=(ac.below d).below Q;obtain⟨ax,g0,g1,g2,g3,y0,y1,y2,y3⟩:=au)
      have an:AO w S:=m.trans ((d.trans (Q.mono d.size)).mono m.size);have lD:Vg S g:=(ah.below d).below Q;have G:g≠B.heap.size:=AQ
      exact⟨⟨j+1,Stil.next s x.code,AQ,by go_num,ao.out,f.out,F3.stored ⟨ax,g0,g1,g2,g3,y0,y1,y2,y3⟩ _,(((lD.set G _).set G _).set G _).set G _,(((an.setCell E _).setCell E _).setCell E _).setCell E _⟩,by simp[intOf];omega⟩
   ·obtain rfl:j=t:=by omega
    have f:Hid (R=if 0<s.bits then(9,j) else(0,0)):=by show _=_;rw[V.out,sA l s j (by have:=fE.out;omega)]
    obtain⟨aw,p0,p1,p2,p3,z0,z1,z2,z3⟩:=T;by_cases ab:0<s.bits
    ·have N:Hid (R=(9,j)):=by show _=_;rw[f.out,if_pos ab]
     go_wp2
     exact⟨rfl,by rw[N.out];rfl,m⟩
    ·have N:Hid (R=(0,0)):=by show _=_;rw[f.out,if_neg ab]
     have ap:s=Stil.pt0:=(Az1 z.out).2 AQ;subst ap;simp only[Stil.pt0] at p0 p1 p2 p3
     go_wp2
     go_end0
     exact⟨by rw[N.out];rfl,m⟩
def MJ (w:World)(b:Nat):Prop:=b<w.heap.size/\(∃u,w.cell? ⟨b,0,none⟩=some u)/\(∃u,w.cell? ⟨b,1,none⟩=some u)/\w.frozen? ⟨b,0,none⟩=false/\w.frozen? ⟨b,1,none⟩=false
theorem catch_panicking (p:Nat)(c k:Int)(w:World)(j:MJ w p):
  CallsD prog 32 #[AH p] (.panicking [{v:=.iface 38 (.agg #[AB c,AB k]),recovered:=false}]) w λe n t=>
   e=.returned (.tuple #[])/\n=.panicking [{v:=.iface 38 (.agg #[AB c,AB k]),recovered:=true}]/\∃a,AO w a/\t=(a.setCell (AK p 0) (AB c)).setCell (AK p 1) (AB k):=by
 obtain⟨d,⟨g,i⟩,⟨o,s⟩,m,r⟩:=j;refine callsD_of_wpS func32 rfl λu x hu=>?_
 apply wpS_region;simp[wpOpsS,go_sem,recoverD,hu,ntmps32];refine(yT c k _).mono ?_;rintro e a ⟨rfl,b⟩;have f:a.cell? (AK p 0)=some g:=(b.cell (p:=(AK p 0)) d).trans i;have q:a.cell? (AK p 1)=some o:=(b.cell (p:=(AK p 1)) d).trans s;have l:a.frozen? (AK p 0)=false:=(b.frozen (p:=(AK p 0)) d).trans m;have h:a.frozen? (AK p 1)=false:=(b.frozen (p:=(AK p 1)) d).trans r;simp[go_sem,f,q,l,h,bodyPostS,results,results32];exact⟨a,b,rfl⟩
theorem catch_idle (p:Nat)(w:World)(h:MJ w p):
  CallsD prog 32 #[AH p] .returning w λe j n=>
   e=.returned (.tuple #[])/\j=.returning/\∃a,AO w a/\n=(a.setCell (AK p 0) (AB 0)).setCell (AK p 1) (AB 0):=by
 obtain⟨c,⟨f,g⟩,⟨k,m⟩,i,l⟩:=h;refine callsD_of_wpS func32 rfl λd r hu=>?_
 apply wpS_region;simp[wpOpsS,go_sem,recoverD,hu,ntmps32];refine(qN _).mono ?_;rintro e a ⟨rfl,b⟩;have o:a.cell? (AK p 0)=some f:=(b.cell (p:=(AK p 0)) c).trans g;have t:a.cell? (AK p 1)=some k:=(b.cell (p:=(AK p 1)) c).trans m;have s:a.frozen? (AK p 0)=false:=(b.frozen (p:=(AK p 0)) c).trans i;have q:a.frozen? (AK p 1)=false:=(b.frozen (p:=(AK p 1)) c).trans l;cases d;simp_all[go_sem,bodyPostS,results,results32];exact⟨a,b,rfl⟩
theorem UN (l:List Stil.Io)(v:Value)(w:World)(hr:Et w)(I:Ji w)(L:Hw w v l)(hl:l.length<=1048576)(J:∀x∈l,x.fits):
  Calls prog 14 #[v] w λe E=>e=.returned (.agg #[.int .i64 (Ee l).1, .int .i64 (Ee l).2])/\Below w.heap.size w E:=by
 have q:Hid (∀W,Below w.heap.size w W->Calls prog 34 #[v] W λe E=>e=endOf (Ee l)/\Below W.heap.size W E):=λW h=>Azk l v W (hr.below h) (I.below h) (L.below h) hl J
 have Q:∀(G:Fn) (first cap:Array Value) (w:World),(Instr.makeFunc G first cap).run prog w=.ok (.func G first cap) w:=λ_ _ _ _=>rfl
 obtain⟨a,cap,rfl,_⟩:=L;obtain⟨b,t⟩:∃b,b=(Ee l).1:=⟨_,rfl⟩
 obtain⟨g,s⟩:∃g,g=(Ee l).2:=⟨_,rfl⟩
 have M:Hid (endOf (Ee l)=endOf (b,g)):=by show _=_;rw[t,s]
 have B:Hid (¬0<b->b=0/\g=0):=by
  show _->_
  rw[t,s];exact Zt l
 rw[M.out] at q;rw[<-t,<-s];clear hr I J t s M;by_cases i:0<b
 ·have m:Hid (endOf (b,g)=.panicked [{v:=.iface 38 (.agg #[.int .i64 b, .int .i64 g]),recovered:=false}]):=by show _=_;unfold endOf;rw[if_pos i]
  rw[m.out] at q;clear m B
  go_enter_defers func14,ntmps14
  go_wp2_with (go_at_call 34;refine(q _ AW).mono ?_;rintro e c ⟨rfl,hb⟩)
  have r:w.heap.size<c.heap.size:=CB AU hb.size;have o:MJ c w.heap.size:=⟨r,⟨_,by rw[hb.cell (p:=⟨w.heap.size,0,none⟩) AU];simp[go_sem];rfl⟩,⟨_,by rw[hb.cell (p:=⟨w.heap.size,1,none⟩) AU];simp[go_sem];rfl⟩,A5 hb,A5 hb⟩
  refine leaves_cons (f:=32) (args:=#[.pointer (some ⟨w.heap.size,0,none⟩)]) AU (by simp[go_sem]) ?_;refine(catch_panicking w.heap.size b g _ o).mono ?_;rintro e P O ⟨rfl,rfl,j,k,rfl⟩;obtain⟨_,⟨z,i⟩,⟨C,h1⟩,_,_⟩:=o;have y:j.cell? ⟨w.heap.size,0,none⟩=some z:=(k.cell (p:=⟨w.heap.size,0,none⟩) r).trans i;have D:j.cell? ⟨w.heap.size,1,none⟩=some C:=(k.cell (p:=⟨w.heap.size,1,none⟩) r).trans h1;simp[Leaves,settle,results,results14,go_sem,y,D];have u:Below w.heap.size w j:=(Aa _ _).trans ((hb.trans (k.mono hb.size)).mono AU);exact(u.setCell (CG _) _).setCell (CG _) _
 ·obtain⟨rfl,rfl⟩:=B i
  have m:Hid (endOf (0,0)=.returned (.tuple #[])):=by show _=_;unfold endOf;rw[if_neg AY]
  rw[m.out] at q;clear m B i
  go_enter_defers func14,ntmps14
  go_wp2_with (go_at_call 34;refine(q _ AW).mono ?_;rintro e c ⟨rfl,hb⟩;have H:c.cell? ⟨w.heap.size,0,none⟩=some (.int .i64 0):=(A3 hb);have q1:c.cell? ⟨w.heap.size,1,none⟩=some (.int .i64 0):=(A3 hb);have F:c.frozen? ⟨w.heap.size,0,none⟩=false:=(A5 hb);have N:c.frozen? ⟨w.heap.size,1,none⟩=false:=(A5 hb))
  have r:w.heap.size<c.heap.size:=CB AU hb.size;refine leaves_cons (f:=32) (args:=#[.pointer (some ⟨w.heap.size,0,none⟩)]) AU (by simp[go_sem]) ?_;obtain⟨W,d⟩:∃W,W=(c.setCell ⟨w.heap.size,0,none⟩ (.int .i64 0)).setCell ⟨w.heap.size,1,none⟩ (.int .i64 0):=⟨_,rfl⟩
  have A:w.heap.size<W.heap.size:=by rw[d];exact CB r (CJ (I7 _ _ _) (I7 _ _ _))
  have o:MJ W w.heap.size:=by
   refine⟨A,⟨.int .i64 0,?_⟩,⟨.int .i64 0,?_⟩,?_,?_⟩
   ·rw[d];exact(A7 AQ).trans (Fb H)
   ·rw[d];exact Fb ((A7 AQ).trans q1)
   ·rw[d];exact Q9.trans (Q9.trans F)
   ·rw[d];exact Q9.trans (Q9.trans N)
  have K:Below w.heap.size w W:=by
   rw[d];exact(((Aa _ _).trans (hb.mono AU)).setCell (CG _) _).setCell (CG _) _
  rw[<-d];clear d H q1 F N;refine(catch_idle w.heap.size _ o).mono ?_;rintro e P O ⟨rfl,rfl,j,k,rfl⟩;obtain⟨_,⟨z,i⟩,⟨C,h1⟩,_,_⟩:=o;have y:j.cell? ⟨w.heap.size,0,none⟩=some z:=(k.cell (p:=⟨w.heap.size,0,none⟩) A).trans i;have D:j.cell? ⟨w.heap.size,1,none⟩=some C:=(k.cell (p:=⟨w.heap.size,1,none⟩) A).trans h1;simp[Leaves,settle,results,results14,go_sem,y,D];have u:Below w.heap.size w j:=K.trans (k.mono K.size);exact(u.setCell (CG _) _).setCell (CG _) _
