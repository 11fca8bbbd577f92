import Derived.Test.YtifcnfeppdbjdaaGreatDoorD21
import Derived.Test.YtifcnfeppdbjdaaGreatDoorCI6
import Derived.Test.YtifcnfeppdbjdaaGreatDoorGe
set_option maxHeartbeats 4000000
set_option maxRecDepth 100000
namespace Go.Proofs.YtifcnfeppdbjdaaGreatDoor
open Tryz Go.RowKit Go.Sort Go.BigFrame
theorem Yn {W:World}{ob:Obj}{c p:Nat}(h:c<W.heap.size):(W.alloc ob).cell? (AK c p)=W.cell? (AK c p):=(Aa W ob).cell (p:=(AK c p)) h
open Classical in
theorem vn (d f:List Stil.CC)(G N:Value)(w:World)(Y:Dk w G d)(R:Dk w N f)(hl:d.length<=1048576)(X:f.length<=1048576):
  Calls prog 107 #[G,N] w (AN w (.bool (decide (d=f)))):=by
 obtain⟨a,cap,rfl,B⟩:=Y;obtain⟨b,ac,rfl,E⟩:=R;by_cases A:d.length=f.length
 ·have Q:Hid (∀i (h:i<d.length),∃b o,a=some (AK b o)/\b<w.heap.size/\Jg w b (o+i*3) d[i]):=B
  have U:Hid (∀i (h:i<f.length),∃z o,b=some (AK z o)/\z<w.heap.size/\Jg w z (o+i*3) f[i]):=E;clear B E;have Z:((d.length:Int) !=(f.length:Int))=false:=by rw[bne_eq_false_iff_eq];omega
  have aa:d.length<=f.length:=AQ
  have ab:f.length<=d.length:=AQ
  clear A;go_enter func107,ntmps107
  go_wp2
  go_loopw [13] (λi wr=>∃k:Nat,k<=d.length/\i=AB k/\d.take k=f.take k/\AO w wr) (λi _=>d.length - (intOf i).toNat)
  case atStart=>exact⟨0,AQ,rfl,AU,Below.refl _ _⟩
  case round=>
   obtain⟨k,X,rfl,J,j⟩:=hrel;have O:Hid (d.take k=f.take k):=J;clear J;by_cases I:k<d.length
   ·have M:k<f.length:=by omega
    obtain⟨b1,o1,rfl,V,D⟩:=Q k I;obtain⟨b2,o2,rfl,nY,C⟩:=U k M;have⟨H,L,P⟩:=D.below j V;have⟨t,u,F⟩:=C.below j nY;by_cases l:d[k]=f[k]
    ·have s:Hid (d.take (k+1)=f.take (k+1)):=by
      show _=_
      rw[D2 I,D2 M,O.out,l]
     rw[<-l] at t u F;have⟨x,q⟩:=AA (d[k])
     rw[<-q] at H L P t u F;clear q l D C
     go_wp2
     go_region
     all_goals go_wp2
     exact⟨⟨k+1,AQ,by go_num,s.out,j.drew⟩,by simp[intOf];omega⟩
    ·have s:Hid (¬d=f):=by
      show ¬_
      intro h;subst h;exact l rfl
     have⟨x,q⟩:=AA (d[k])
     have⟨y,v⟩:=AA (f[k])
     rw[<-q] at H L P;rw[<-v] at t u F;rw[<-q,<-v] at l;have S:(x.kind==y.kind)=false\/(x.kind=y.kind/\(x.n==y.n)=false)\/(x.kind=y.kind/\x.n=y.n/\(x.p==y.p)=false):=by
      simp only[CS];by_cases g:x.kind=y.kind
      ·by_cases m:x.n=y.n
       ·exact .inr (.inr ⟨g,m,λK=>l ((kQ _ _).2 ⟨g,m,K⟩)⟩)
       ·exact .inr (.inl ⟨g,m⟩)
      ·exact .inl g
     clear q v l D C;rcases S with g | ⟨g,m⟩ | ⟨g,m,K⟩
     ·go_wp2
      go_region
      all_goals go_wp2
      go_ret;exact⟨Ae (by rw[FW s.out]),j.drew⟩
     ·rw[<-g] at t
      clear g
      go_wp2
      go_region
      all_goals go_wp2
      go_ret;exact⟨Ae (by rw[FW s.out]),j.drew⟩
     ·rw[<-g] at t
      rw[<-m] at u;clear g m
      go_wp2
      go_region
      all_goals go_wp2
      go_ret;exact⟨Ae (by rw[FW s.out]),j.drew⟩
   ·go_wp2
    go_ret;have e:d=f:=by
     have:=O.out
     rwa [EA AQ,EA AQ] at this
    exact⟨Ae (by rw[JH e]),j⟩
 ·have Z:((d.length:Int) !=(f.length:Int))=true:=by rw[bne_iff_ne];omega
  have T:Hid (¬d=f):=by show ¬_;intro h;exact A (by rw[h])
  clear A B E;go_enter func107,ntmps107
  go_wp2
  go_ret;exact⟨Ae (by rw[FW T.out]),Av⟩
open Classical in
theorem Avj (x y:Stil.Elem)(hx:x.fits)(o:y.fits):∀(a d:Value) (w:World),Dk w a x.args->Dk w d y.args->Calls prog 67 #[.agg #[AB x.op,a], .agg #[AB y.op,d]] w (AN w (.bool (decide (x=y)))):=by
 intro a d w k i;obtain⟨op,f⟩:=x;obtain⟨m,b⟩:=y;simp only at k i;have s:Hid (∀W,AO w W->Calls prog 107 #[a,d] W (AN W (.bool (decide (f=b))))):=λW q=>vn f b a d W (k.below q) (i.below q) hx.2.1 o.2.1
 obtain⟨v,z,rfl,_⟩:=k;obtain⟨u,A,rfl,_⟩:=i;clear hx o;by_cases g:op=m
 ·subst g
  have j:Hid (decide ((⟨op,f⟩:Stil.Elem)=⟨op,b⟩)=decide (f=b)):=by show _=_;simp
  go_enter func67,ntmps67
  go_wp2_with (go_at_call 107;refine(s _ AW).mono ?_;rintro e B ⟨rfl,C⟩)
  go_ret;exact⟨Ae (by rw[j.out]),AW⟩
 ·have t:(op==m)=false:=by rw[CS];exact g
  have j:Hid (¬(⟨op,f⟩:Stil.Elem)=⟨m,b⟩):=by show ¬_;intro h;exact g (Stil.Elem.mk.inj h).1
  clear g;go_enter func67,ntmps67
  go_wp2
  go_ret;exact⟨Ae (by rw[FW j.out]),AW⟩
end Go.Proofs.YtifcnfeppdbjdaaGreatDoor
set_option maxHeartbeats 4000000
set_option maxRecDepth 100000
namespace Go.Proofs.YtifcnfeppdbjdaaGreatDoor
open Tryz Go.RowKit Go.Sort Go.BigFrame
open Classical in
theorem Avg (x y:Stil.Io)(hx:x.fits)(o:y.fits):∀(b d:Value) (w:World),Dk w b x.one.args->Dk w d y.one.args->Calls prog 36 #[.agg #[AB x.code,AB x.one.op,b], .agg #[AB y.code,AB y.one.op,d]] w (AN w (.bool (decide (x=y)))):=by
 intro b d w m j;obtain⟨a,g⟩:=x;obtain⟨k,i⟩:=y;simp only at m j;have r:=AV (λW q=>Avj g i hx.2 o.2 b d W (m.below q) (j.below q));obtain⟨v,z,rfl,_⟩:=m;obtain⟨u,A,rfl,_⟩:=j;clear hx o;by_cases f:a=k
 ·subst f
  have l:Hid (decide ((⟨a,g⟩:Stil.Io)=⟨a,i⟩)=decide (g=i)):=by show _=_;simp
  go_enter func36,ntmps36
  go_wp2_with (go_at_call 67;refine(r _ AW).mono ?_;rintro e B ⟨rfl,C⟩)
  go_ret;exact⟨Ae (by rw[l.out]),AW⟩
 ·have t:(a==k)=false:=by rw[CS];exact f
  have l:Hid (¬(⟨a,g⟩:Stil.Io)=⟨k,i⟩):=by show ¬_;intro h;exact f (Stil.Io.mk.inj h).1
  clear f;go_enter func36,ntmps36
  go_wp2
  go_ret;exact⟨Ae (by rw[FW l.out]),AW⟩
open Classical in
theorem Avi  (es d:List Stil.Io)(r:∀x∈es,∀y∈d,∀(s z:Value) (w:World),Dk w s x.one.args->Dk w z y.one.args->Calls prog 36 #[.agg #[AB x.code,AB x.one.op,s], .agg #[AB y.code,AB y.one.op,z]] w (AN w (.bool (decide (x=y)))))(v u:Value)(w:World)(af:Hw w v es)(vF:Hw w u d)(hl:es.length<=1048576)(hm:d.length<=1048576):
  Calls prog 35 #[v,u, .func (.func 36) #[] #[]] w (AN w (.bool (decide (es=d)))):=by
 obtain⟨a,cap,rfl,D⟩:=af;obtain⟨a2,ar,rfl,B⟩:=vF;by_cases t:es.length=d.length
 ·have V:=AV D
  have HB:=AV B;have IH:=AV r;clear D B r;have ac:((es.length:Int) !=(d.length:Int))=false:=by rw[bne_eq_false_iff_eq];omega
  have ao:es.length<=d.length:=AQ
  have ah:d.length<=es.length:=AQ
  clear t;go_enter func35,ntmps35
  go_wp2
  go_loopw [17] (λi wr=>∃k:Nat,k<=es.length/\i=AB k/\es.take k=d.take k/\AO w wr) (λi _=>es.length - (intOf i).toNat)
  case atStart=>exact⟨0,AQ,rfl,AU,Below.refl _ _⟩
  case round=>
   obtain⟨k,hk,rfl,I,f⟩:=hrel;have E:=AV I;clear I;by_cases q:k<es.length
   ·have C:k<d.length:=by omega
    obtain⟨b,o,rfl,U,O⟩:=V k q;have Q:=(O.below f U)
    obtain⟨b2,o2,rfl,K,S⟩:=HB k C;have L:=(S.below f K)
    have⟨X,x1,s,x2,T⟩:=id Q;have⟨R,P,z,y2,M⟩:=id L;obtain⟨j,g⟩:∃j,decide (es[k]=d[k])=j:=⟨_,rfl⟩
    have l:=AV (λW H=>IH es[k] (CN q) d[k] (CN C) _ _ W (T.below H) (M.below H));have F:Hid (j=true->es.take (k+1)=d.take (k+1)):=by
     show _->_
     intro h;rw[h,decide_eq_true_iff] at g;rw[D2 q,D2 C,E.out,g]
    have m:Hid (j=false->¬es=d):=by
     show _->_
     intro h he;rw[h,FQ] at g;subst he;exact g rfl
    rw[g] at l;have⟨x,J⟩:=AA (es[k])
    have⟨y,N⟩:=AA (d[k])
    rw[<-J] at l X x1;rw[<-N] at l R P;clear J N g O Q S L E
    ·obtain⟨p0,r0,rfl,_⟩:=T
     obtain⟨ai,al,rfl,_⟩:=M;have aj:=f.size;have an:=CB U f.size;have A:=CB K f.size;have ag:=λob=>(Yn (ob:=ob) A).trans R
     have ak:=λob=>(Yn (ob:=ob) A).trans P
     have ap:=λob=>(Yn (ob:=ob) A).trans y2
     cases j
     ·have ae:=AV (m rfl)
      clear m F
      go_wp2_with (go_at_call 36;refine(l _ AW).mono ?_;rintro e Y ⟨rfl,aa⟩)
      go_ret;exact⟨Ae (by rw[FW ae.out]),Bc f AW⟩
     ·have ab:=AV (F rfl)
      clear m F
      go_wp2_with (go_at_call 36;refine(l _ AW).mono ?_;rintro e Y ⟨rfl,aa⟩)
      exact⟨⟨k+1,AQ,by go_num,ab.out,Bc f AW⟩,by simp[intOf];omega⟩
   ·go_wp2
    go_ret;have e:es=d:=by
     have:=E.out
     rwa [EA AQ,EA AQ] at this
    exact⟨Ae (by rw[JH e]),f⟩
 ·have ac:((es.length:Int) !=(d.length:Int))=true:=by rw[bne_iff_ne];omega
  have Z:Hid (¬es=d):=by show ¬_;intro h;exact t (by rw[h])
  clear t D B r;go_enter func35,ntmps35
  go_wp2
  go_ret;exact⟨Ae (by rw[FW Z.out]),Below.refl _ _⟩
open Classical in
set_option maxHeartbeats 1000000 in
theorem Ave (es a:List Stil.Io)(v u:Value)(w:World)(d:Hw w v es)(b:Hw w u a)(f:∀x∈es,x.fits)(hg:∀x∈a,x.fits)(hl:es.length<=1048576)(j:a.length<=1048576):
  Calls prog 15 #[v,u] w (AN w (.bool (decide (es=a)))):=by
 have H:=AV (λW h=>Avi es a (λx i y g=>Avg x y (f x i) (hg y g)) v u W (d.below h) (b.below h) hl j);obtain⟨r,l,rfl,-⟩:=d;obtain⟨m,o,rfl,-⟩:=b;go_enter func15,ntmps15
 go_wp2_with (go_at_call 35;refine(H _ AW).mono ?_;rintro e s ⟨rfl,q⟩)
 go_ret;exact⟨rfl,AW⟩
open Stil
set_option maxHeartbeats 2000000 in
set_option maxRecDepth 100000 in
theorem jE (g P:Nat)(w:World)(hr:Ig w g P)(J:P<=1000000):
  Calls prog 42 #[AH g] w λe m=>NA e w m g (P+400000) 6000 104:=by
 have L:=Va hr;go_enter func42,ntmps42;go_upto_region 2 with(go_at_call 73;refine(xl g _ _ Ab AQ).mono ?_;rintro e M ⟨l,v,rfl,j,n,F,z,f⟩;obtain⟨H,s,rfl,-⟩:=id j)
 have A:=AV j;have k:=AV n;clear j n;have K:=f.size
 go_wp2_with (first | (go_at_call_of 37 (Value.int IntKind.i64 16);refine(Fp g _ _ _ z AQ AQ AQ).mono ?_;rintro e i ⟨x,rfl,O,N,q,d⟩;have I:=d.size;have r:=AV (A.keep (Ac.of_grown d (λb G e=>(by simp only[CZ] at e;omega))));have C:Hid (Calls prog 74 #[AH g,AE H l.length s] i λe m=>Rr (λb=>w.heap.size<=b) e i m g (P+60000+1+300000) 6000 104):=Axq _ g (P+60000+1) 4000 4 i _ l (λb G=>AQ) r k F AQ AQ q AQ) | (go_at_call 74;refine C.mono ?_;rintro e w3 ⟨t,Q,rfl,B,u,E,D,y⟩))
 ·go_ret
  refine⟨t,_,rfl,B.mono λb _ h=>?_,u,E,F6 D AQ,D5 (D5 f d) y⟩;rcases h with h | h
  ·exact h.1
  ·omega
 ·go_ret
  exact⟨l,_,rfl,r.out,λa o=>⟨(k a o).1,by have:=(k a o).2;omega⟩,AQ,F6 q AQ,D5 f d⟩
def SU (e:Ending)(w w':World)(N k:Nat):Prop:=∃(l:List Stil.B8) (v:Value),e=.returned v/\Fe w' v l/\(∀a∈l,Jj a/\Gs a<=N)/\l.length<=k/\AO w w'
theorem nE {w w':World}{g:Nat}(h:w.grownBy w' (some g))(hg:w.heap.size<=g):AO w w':=⟨h.os,h.tape,h.output,h.size,λk a=>h.block k a (by intro e;cases e;omega)⟩
open Go.Co
theorem Ji.blw {w w':World}(h:Ji w)(a:C6 w.heap.size w w'):Ji w':=by
 have e:Ji {w' with tape:=w.tape,drawn:=0}=Ji w':=AX
 exact e ▸ h.below (a.tape 0)
theorem Avs (x y:Value)(w:World):Sem.run prog (Instr.field 38 (.agg #[x,y]) 0) w=.ok x w:=AX
theorem Avr (x y:Value)(w:World):Sem.run prog (Instr.field 35 (.agg #[x,y]) 0) w=.ok x w:=AX
theorem kO (l:List Stil.B8):(Hu l).1=[]\/(Hu l).1=Hy l:=by
 unfold Hu;split
 ·exact .inl rfl
 ·split
  ·exact .inl rfl
  ·exact .inr rfl
theorem ix {l:List Stil.B8}(a:∀x∈l,Dh x):(∀x∈(Hu l).1,x.fits)/\(Hu l).1.length<=800:=by
 rcases kO l with h | h<;>rw[h]
 ·exact⟨(λx b=>by cases b),DI _⟩
 ·exact⟨WZ a,P7 a⟩
abbrev U0:Value:=undef
set_option maxHeartbeats 40000000 in
set_option maxRecDepth 100000 in
open Classical in
theorem xp (HD:∀u w,BytesAt w u->Calls prog 4 #[u] w λe w'=>SU e w w' 6000 104)(u:Value)(w:World)(D:Et w)(M:Fh w)(ae:Ji w)(hu:BytesAt w u):
  Go.Co.Comes prog (Go.Conc.G (Frame.enter prog 3 #[u] .normal) []) w (S8 3 w):=by
 have kD:=Go.Conc.resultsC_tmp (P:=prog) (fn:=Tryz.f3) rfl;have ay:Hid (∀y d,BytesAt {w with tape:=y,drawn:=d} u):=fun y d=>by
  have e:BytesAt {w with tape:=y,drawn:=d} u=BytesAt w u:=AX
  exact e ▸ hu
 obtain⟨ua,ul,uc,rfl,-,-,-⟩:=hu;by_cases bw:1048576<ul
 ·refine e8 okP (v:=.bool true) (Post:=λw'=>C6 w.heap.size w w') (fun y d=>?_) ?_
  ·obtain⟨W,C⟩:∃W:World,W={w with tape:=y,drawn:=d}:=⟨_,rfl⟩
   rw[<-C];have iZ:Hid (C6 w.heap.size w W):=by subst C;exact⟨rfl,rfl,CG _,λ_ _=>rfl⟩
   clear C D M;go_enter func3,ntmps3
   go_wp2
   go_ret;exact⟨rfl,iZ.out⟩
  ·intro fr w' W hl hf ⟨y,d,T⟩
   refine Go.Co.Comes.stop ⟨fr,rfl,hl.1,hl.2.1,hl.2.2.1,hf,?_,T.os,T.out,T.size,T.block⟩;have⟨fn,aX,hr⟩:=hl.2.2.2;rw[hf,func3] at aX;cases aX;have:=(kD fr.tmps W).1
   rw[hr] at this;injection this with h3
   exact h3.symm
 have ab:∃X N z r4 r5 d,Tryz.f3.body=some (HO [X,N,z] (.seq r4 (.seq r5 d))):=⟨_,_,_,_,_,_,rfl⟩
 obtain⟨X,N,z,r4,r5,d,ab⟩:=ab;rw[Go.Co.enter_at #[AE ua ul uc] func3 ab];simp only[ntmps3,Cd,CH,CO,Nat.reduceAdd,Nat.reduceSub,DN,DO,DL,DR,C5,C4];unfold Tryz.f3 at ab;simp only[HO] at ab;cases ab;obtain⟨RA,xU⟩:∃RA:Act->World->Prop,Hid (RA=(λa' W=>∃(aF a2 aH ba aP:Value) (l:List Stil.B8) (H:Option Addr) (z:Nat),a'=⟨#[AE ua ul uc,U0, .bool false,AE H l.length z,U0,U0,U0,U0,U0,U0,U0,aF,a2,aH,ba,aP,U0,U0,U0,U0,U0,U0,U0,U0,U0,U0,U0,U0,U0,U0,U0,U0,U0,U0,U0,U0,U0,U0,U0,U0,U0,U0,U0,U0,U0,U0,U0,U0,U0,U0,U0,U0,U0,U0,U0,U0,U0,U0,U0,U0,U0,U0,U0,U0,U0,U0,U0,U0,U0,U0,U0,U0,U0,U0,U0,U0,U0,U0,U0,U0,U0,U0,U0,U0,U0,U0,U0,U0,U0,U0,U0,U0,U0,U0,U0,U0,U0,U0,U0,U0,U0,U0,U0,U0],[]⟩/\Fe W (AE H l.length z) l/\((∀x∈l,Dh x)/\l.length<=1048576/\Bz l<=1000000000)/\C6 w.heap.size w W)):=⟨_,rfl⟩
 refine XB okP [_,_,_] (R:=RA) ?_ ?_
 ·intro y V
  obtain⟨W,C⟩:∃W:World,W={w with tape:=y,drawn:=V}:=⟨_,rfl⟩
  rw[<-C];have iZ:Hid (∀j,AO W j->C6 w.heap.size w j):=by
   intro j h;subst C;exact⟨h.os,h.output,h.size,h.block⟩
  have bg:Hid (Calls prog 4 #[AE ua ul uc] W λe w'=>∃(l:List Stil.B8) (a:Option Addr) (c:Nat),e=.returned (AE a l.length c)/\Fe w' (AE a l.length c) l/\((∀x∈l,Dh x)/\l.length<=1048576/\Bz l<=1000000000)/\AO W w'):=by
   refine(HD _ _ (C ▸ ay.out y V)).mono ?_;rintro e w1 ⟨l,v,rfl,aL,aI,O,ax⟩;have hs:=PG aI;have:l.length*(2+2*6000)<=104*(2+2*6000):=FD _ O;obtain⟨a1,N,rfl,-⟩:=id aL;exact⟨l,a1,N,rfl,aL,⟨PI aI AQ,AQ,AQ⟩,ax⟩
  clear C D M ae ay HD kD;refine KG ?_
  go_wp2
  refine KG ?_
  go_wp2
  refine KG ?_
  go_wp2_with (go_at_call 4;refine bg.mono ?_;rintro e w1 ⟨l,a1,N,rfl,bj,kN,ax⟩)
  refine d6 ?_;rw[xU.out];exact⟨_,_,_,_,_,l,a1,N,rfl,bj,kN,iZ _ ax⟩
 intro a' W1 aW;rw[xU.out] at aW;clear xU RA ay HD;obtain⟨y,V,aF,a2,aH,ba,aP,l,H,z,rfl,ai,⟨A,O,S⟩,I⟩:=aW;have e1:Fe {W1 with tape:=y,drawn:=V} (AE H l.length z) l=Fe W1 (AE H l.length z) l:=AX
 replace ai:=e1 ▸ ai;replace I:C6 w.heap.size w W1:=⟨I.os,I.out,I.size,I.block⟩
 clear e1;have⟨J,ac⟩:=AA ((Hu l).2)
 have⟨s,Y⟩:=AA ((Hu l).1)
 have⟨yV,aA⟩:=ix A;rw[<-Y] at yV aA;refine cR λ_ t=>?_
 simp only[Cd,CH,CO,Nat.reduceAdd,CV,List.range,List.range.loop];refine cP t (AE H l.length z) λ_ t=>?_
 try walk_nrm
 refine cC t #[AE H l.length z] func5 (Post:=λr w'=>(∃g,r=.tuple #[g,AB J]/\Hw w' g s)/\C6 W1.heap.size W1 w') (λj t=>(Azz l _ j (D.blw (I.trans t.blw)) (M.blw (I.trans t.blw)) (ai.blw t.blw) O S A).mono λr w' ⟨g,ms,bn,ao,hO,hb⟩=>⟨⟨g,by rw[ac];exact bn,by rw[Y] at yV aA ⊢;exact hO.insts ao yV aA⟩,t.lw hb⟩) λgt W2 T=>?_
 obtain⟨⟨g,rfl,ar⟩,aG⟩:=T;obtain⟨ga,gc,rfl,-⟩:=id ar;clear t;have t:=Tp.refl W2;try walk_nrm
 refine cP t (.tuple #[AE ga s.length gc,AB J]) λ_ t=>?_
 try walk_nrm
 refine cP t (AE ga s.length gc) λ_ t=>?_
 try walk_nrm
 refine cP t (AB J) λ_ t=>?_
 try walk_nrm
 refine cP t (AE ga s.length gc) λ_ t=>?_
 try walk_nrm
 refine cP t (AB J) λ_ t=>?_
 try walk_nrm
 refine cN t λa7 t=>?_
 have aC:=aG.trans t.blw;have jb:=I.trans (aC.le I.size);have an:=ai.blw aC;have bc:=ar.blw t.blw;clear t aG aC ar ai I;try simp only[Act.put]
 have⟨m,E⟩:=AA (Hy l)
 have U:=WZ A;have az:=P7 A;rw[<-E] at U az;refine cR λ_ t=>?_
 simp only[Cd,CH,CO,Nat.reduceAdd,CV,List.range,List.range.loop];refine cP t (AE H l.length z) λ_ t=>?_
 try walk_nrm
 refine cC t #[AE H l.length z] func6 (Post:=λr w'=>Hw w' r m/\C6 a7.heap.size a7 w') (λj t=>(Wz l _ j (D.blw (jb.trans t.blw)) (M.blw (jb.trans t.blw)) (an.blw t.blw) O S A).mono λr w' ⟨ms,ao,hO,hb⟩=>⟨by rw[E] at U az ⊢;exact hO.insts ao U az,t.lw hb⟩) λpv W3 T=>?_
 obtain⟨au,a9⟩:=T;obtain⟨pa,pc,rfl,-⟩:=id au;clear t;have t:=Tp.refl W3;try walk_nrm
 refine cP t (AE pa m.length pc) λ_ t=>?_
 try walk_nrm
 refine cN t λaM t=>?_
 have uo:=a9.trans t.blw;have a6:=jb.trans (uo.le jb.size);have a8:=an.blw uo;have bb:=bc.blw uo;have aZ:=au.blw t.blw;clear t a9 uo au an bc jb;try simp only[Act.put]
 refine ZE okP (Q:=λe a w'=>e=.ret/\a.defers=[]/\a.tmps.getD 2 undef=.bool true/\C6 w.heap.size w w') (λe a w h=>.inr h.1) (fun y V=>?_) ?_ ?_
 ·obtain⟨W,C⟩:∃W:World,W={aM with tape:=y,drawn:=V}:=⟨_,rfl⟩
  rw[<-C];have lF:Tp aM W:=⟨y,V,C⟩
  have aa:=a6.trans lF.blw;have Z:=a8.blw lF.blw;have aB:=bb.blw lF.blw;have jc:=aZ.blw lF.blw;replace D:=D.blw aa;replace M:=M.blw aa;replace ae:=ae.blw aa;have HB:=AV (λj (h:AO W j)=>aa.trans ((C6.of h).le aa.size));clear C lF a6 a8 bb aZ aa kD;have aE:Hid (∀j,AO W j->Calls prog 7 #[AE H l.length z] j λe w'=>∃a n c,e=.returned (.tuple #[AE a n c,AB J])/\AO j w'):=λj h=>(Axw l _ j (Z.below h) O S A).mono λe w' ⟨a,c,ms,he,_,_,hb⟩=>⟨a,_,c,by rw[ac];exact he,hb⟩
  have zB:Hid (∀j,AO W j->Calls prog 9 #[AE H l.length z] j λe w'=>∃a c,e=.returned (AE a m.length c)/\Hw w' (AE a m.length c) m/\AO j w'):=λj h=>(WR l _ j (Z.below h) O S A).mono λe w' ⟨a,c,ms,he,hm,hi,hb⟩=>by
   have aU:=hi.at;rw[hm,<-E] at aU;exact⟨a,c,by rw[he,E,<-hm,CW],aU,hb⟩
  have aY:Hid (∀j a c,AO W j->Hw j (AE a m.length c) m->Calls prog 8 #[AE pa m.length pc,AE a m.length c] j (AN j (.bool true))):=λj a c h hi=>xj m _ _ j (jc.below h) hi AQ U
  have ap:Hid (∀j,AO W j->Calls prog 10 #[AE pa m.length pc] j (AN j (.agg #[AB (Jm l),AB (Hz l)]))):=λj h=>by
   have:=yW m _ j (jc.below h) AQ
   rw[E,WX A,<-E] at this;exact this
  have av:=AV (λj h=>PL l _ j (D.below h) (M.below h) (Z.below h) O S A);have ak:=AV (λj h=>N3 l _ j (D.below h) (M.below h) (Z.below h) O S A);have lq:=AV (λj h=>NR l _ j (Z.below h) O S A);have ng:=AV (λj h=>UN m _ j (D.below h) (ae.below h) (jc.below h) AQ U);have xg:=AV (λj h=>UN s _ j (D.below h) (ae.below h) (aB.below h) AQ yV);have fU:=AV (λj h=>Ave s m _ _ j (aB.below h) (jc.below h) yV U AQ AQ);clear D M ae Z aB jc;have bC:=Avr;have bs:=Avs;have⟨B,hB⟩:=AA (Jm l)
  have⟨K,hK⟩:=AA (Hz l)
  obtain⟨tc,aR⟩:∃r,r=(Aw l).1:=⟨_,rfl⟩
  obtain⟨tr,aV⟩:∃r,r=(Aw l).2:=⟨_,rfl⟩
  obtain⟨sc,aD⟩:∃r,r=(Ee m).1:=⟨_,rfl⟩
  obtain⟨sr,aO⟩:∃r,r=(Ee m).2:=⟨_,rfl⟩
  obtain⟨si,aw⟩:∃r,r=(Ee s).1:=⟨_,rfl⟩
  obtain⟨sj,aS⟩:∃r,r=(Ee s).2:=⟨_,rfl⟩
  obtain⟨same,aj⟩:∃b,b=decide (s=m):=⟨_,rfl⟩
  rw[<-hB,<-hK] at ap;rw[<-hB] at av;rw[<-hK] at ak;rw[<-aR,<-aV] at lq;rw[<-aD,<-aO] at ng;rw[<-aw,<-aS] at xg;rw[<-aj] at fU;have HP:Hid ((0<tc/\J=1/\s.length=0/\m.length=0)\/(tc=0/\¬(B<=16/\K<=8)/\J=2/\s.length=0/\0<sc)\/(tc=0/\B<=16/\K<=8/\J=0/\same=true/\si=0)):=by
   have bu:=(Xd l).1;by_cases h0:0<tc
   ·have hn:(Aw l).1≠0:=by omega
    refine .inl ⟨h0,?_,?_,?_⟩
    ·rw[ac];unfold Hu;rw[if_pos AQ]
    ·rw[Y];unfold Hu;rw[if_pos AQ];rfl
    ·rw[E,(LM hn).1];rfl
   ·have bp:(Aw l).1=0:=by omega
    by_cases hf:B<=16/\K<=8
    ·have hw:=R7 bp AQ AQ
     have e:s=m:=by rw[Y,E,hw]
     refine .inr (.inr ⟨AQ,hf.1,hf.2,by rw[ac,hw],by rw[aj,e];simp,?_⟩);rw[aw,e,E,yt A AQ AQ]
    ·refine .inr (.inl ⟨AQ,hf,?_,?_,?_⟩)
     ·rw[ac];unfold Hu;rw[if_neg AQ,if_pos AQ]
     ·rw[Y];unfold Hu;rw[if_neg AQ,if_pos AQ];rfl
     ·have L:=yv A (by rw[<-hB,<-hK];exact hf)
      have h2:=(sT m).1;rw[<-E] at L;omega
  clear hB hK aR aV aD aO aw aS aj ac Y E U yV A S;go_upto_region 10 with(first | (go_at_call 7;refine(aE _ AW).mono ?_;rintro e w4 ⟨a4,n4,c4,rfl,bh⟩) | (go_at_call 9;refine(zB _ AW).mono ?_;rintro e w5 ⟨a5,c5,rfl,aT,bk⟩) | (go_at_call 8;refine(aY _ _ _ AW aT).mono ?_;rintro e w6 ⟨rfl,bm⟩) | (go_at_call 10;refine(ap _ AW).mono ?_;rintro e w7 ⟨rfl,bo⟩))
  have⟨ag,hV⟩:=AA (w7.alloc (.cells #[AB (B:Int),AB (K:Int)] 31))
  have uq:AO W ag:=by rw[hV];exact AW
  have X:ag.cell? (AL w7 0)=some (AB B):=by rw[hV];simp[go_sem]
  have N:ag.cell? (AL w7 1)=some (AB K):=by rw[hV];simp[go_sem]
  rw[<-hV];clear hV bh bk bm bo aT aE zB aY ap;have r0:=cell_regrown X;have r1:=cell_regrown N;refine wp_region_quiet_below AX AX ?_;repeat (go_big_quiet_step ((first | exact Calls.regrown_of (av _ (Gq uq _ _)) | exact Calls.regrown_of (ak _ (Gq uq _ _)))))
  refine wpQuiet_nil ?_;intro _ bf;obtain⟨⟨dq,osq⟩,bi⟩:=bf;subst bi;have⟨ah,hU⟩:=AA (grow (redrawn ag dq) osq)
  have bB:AO W ah:=by rw[hU];exact Gq uq _ _
  have X:ah.cell? (AL w7 0)=some (AB B):=by rw[hU];exact r0 _ _
  have N:ah.cell? (AL w7 1)=some (AB K):=by rw[hU];exact r1 _ _
  have bz:=Be X;dsimp only;rw[<-hU];clear hU r0 r1 uq av ak;rcases HP.out with⟨h0,rfl,L,h2⟩ | ⟨rfl,hf,rfl,L,h2⟩ | ⟨rfl,L,h2,rfl,rfl,rfl⟩
  ·have e1:((s.length:Int)==0)=true:=by rw[L];rfl
   have e2:((m.length:Int)==0)=true:=by rw[h2];rfl
   clear HP L h2 ng xg fU
   go_wp2_with (go_at_call 13;refine(lq _ AW).mono ?_;rintro e w8 ⟨rfl,af⟩)
   exact HB _ AW
  ·have e1:((s.length:Int)==0)=true:=by rw[L];rfl
   clear HP L xg fU;by_cases hb:B<=16
   ·have hk:decide ((K:Int)<=8)=false:=by rw[FQ];omega
    have aQ:(B:Int)<=16:=AQ
    go_wp2_with (first | (go_at_call 13;refine(lq _ AW).mono ?_;rintro e w8 ⟨rfl,af⟩;have⟨aN,aJ⟩:=Ef af) | (go_at_call 14;refine(ng _ AW).mono ?_;rintro e w9 ⟨rfl,pY⟩))
    exact HB _ AW
   ·have aQ:decide ((B:Int)<=16)=false:=by rw[FQ];omega
    go_wp2_with (first | (go_at_call 13;refine(lq _ AW).mono ?_;rintro e w8 ⟨rfl,af⟩;have⟨aN,aJ⟩:=Ef af) | (go_at_call 14;refine(ng _ AW).mono ?_;rintro e w9 ⟨rfl,pY⟩))
    exact HB _ AW
  ·have aQ:(B:Int)<=16:=by omega
   have bq:(K:Int)<=8:=AQ
   have bD:(s.length:Int)<=1000:=AQ
   clear HP L h2 ng
   go_wp2_with (first | (go_at_call 13;refine(lq _ AW).mono ?_;rintro e w8 ⟨rfl,af⟩;have⟨aN,aJ⟩:=Ef af) | (go_at_call 15;refine(fU _ AW).mono ?_;rintro e w9 ⟨rfl,pY⟩) | (go_at_call 14;refine(xg _ AW).mono ?_;rintro e bv ⟨rfl,bA⟩))
   exact HB _ AW
 ·rintro a' w' ⟨y,d,h,_⟩
  cases h
 ·rintro a' w' br ⟨y,d,_,hd,ht,hb⟩
  exact Go.Co.Comes.stop ⟨_,rfl,rfl,hd,rfl,rfl,ht,hb.os,hb.out,hb.size,hb.block⟩
end Go.Proofs.YtifcnfeppdbjdaaGreatDoor
set_option maxHeartbeats 4000000
set_option maxRecDepth 100000
namespace Go.Proofs.YtifcnfeppdbjdaaGreatDoor
open Tryz Stil Go.RowKit Go.Sort Go.BigFrame
variable {c:Nat}{aK:Int}{p:Option Addr}
theorem Ayq {w:World}{e:TypeId}{size n cap:Nat}{xs:List Value}{a:Array Value}(hl:xs.length=n*size)(b:n<=cap)(f:cap<=maxLen)(d:a.size=(cap - n)*size):
  (w.alloc (.cells (xs.toArray++a) e)).ownsRow w.heap.size e size (AE (some (AL w 0)) n cap) n xs:=by
 refine⟨hl, .inr ⟨w.heap.size,cap,_,rfl,CG _,heap_alloc_new w _,b,f,?_,?_⟩⟩
 ·simp only[Array.size_append,Cd,hl,d,<-Nat.add_mul]
  congr 1;omega
 ·simp[<-hl]
theorem pF {R:Nat->Prop}{w:World}{ks:List Stil.B8}(h:Em R w (AE p ks.length ks.length) ks)(hl:ks.length<=2000)(e:TypeId){ad:Addr}{cs:List Value}(l:cs.length=6)(m:∀j u,cs[j]?=some u->w.cell? (ad.add j)=some u):
  ∃cap g a,(Builtin.append_ #[23,23] e #[AE p ks.length ks.length,AE (some ad) 1 c]).run prog w=.ok (AE (some ⟨w.heap.size,0,none⟩) (ks.length+1) cap) g/\RowOf 6 (N9 R w) a ks/\g.ownsRow w.heap.size 62 6 (AE (some ⟨w.heap.size,0,none⟩) (ks.length+1) cap) (ks.length+1) (a++cs)/\AO w g:=by
 have⟨i,hi,q,f,r⟩:=info_parts Zd;have⟨z,A,o,v,a,d,x⟩:=UT h;simp only[Value.slice.injEq,true_and] at o;obtain⟨rfl,rfl⟩:=o;have n:=d.1;have y:=grownCap_ge w (ks.length+1) ks.length 62;have s:=grownCap_le_maxLen w (ks.length+1) ks.length 62 A6;have key:∀b:World,b=w.drew.alloc (.cells ((a++cs).toArray++Builtin.zeroCells (Value.agg #[AB 0,AB 0,AG,AG,AG,AG]).cells (grownCap w (ks.length+1) ks.length 62 - (ks.length+1))) 62)->b.ownsRow w.heap.size 62 6 (AE (some ⟨w.heap.size,0,none⟩) (ks.length+1) (grownCap w (ks.length+1) ks.length 62)) (ks.length+1) (a++cs)/\AO w b:=by
  rintro b rfl;refine⟨Ayq (w:=w.drew) Ax y s (by rw[size_zeroCells];rfl),?_⟩;exact Bd (J7 (Below.refl _ _)) _
 cases p with
 | none=>
  obtain rfl:ks=[]:=List.length_eq_zero_iff.1 (v.2 rfl);obtain rfl:a=[]:=List.length_eq_zero_iff.1 (by simpa using n);exact⟨_,_,[],run_append_nil (P:=prog) w 23 e 62 i _ underlying23 hi q ad 1 c cs (by rw[f,l]) m AQ AQ (by rw[r];omega),d,key _ AU⟩
 | some k=>
  have t:=run_append_grow (P:=prog) w 23 e 62 i _ underlying23 hi q k ks.length ks.length a (by rw[f,n]) (x k rfl) ad 1 c cs (by rw[f,l]) m AQ AQ (growslice_fits AQ (by rw[r];omega));exact⟨_,_,a,t,d,key _ AU⟩
theorem ov {ops:Array Oper}{o:Oper}{a:Act}{w:World}{K:Act->World->Prop}{Q:Exit->Act->World->Prop}{E:Prop}(hg:o.guard=none)(s x:Operand)(r:o.op=.call {callee:=.builtin .append,args:=#[s,x],argTypes:=#[23,23]})
  {R:Nat->Prop} {ks:List Stil.B8} (h:Em R w (AE p ks.length ks.length) ks) (hl:ks.length<=2000) (m:a.eval s=AE p ks.length ks.length) {ad:Addr} (cs:List Value) (hx:a.eval x=AE (some ad) 1 c) (g:cs.length=6) (i:∀j u,cs[j]?=some u->w.cell? (ad.add j)=some u)
  (l:∀cap b d,RowOf 6 (N9 R w) d ks->b.ownsRow w.heap.size 62 6 (AE (some ⟨w.heap.size,0,none⟩) (ks.length+1) cap) (ks.length+1) (d++cs)->AO w b->K (a.put o.dst (AE (some ⟨w.heap.size,0,none⟩) (ks.length+1) cap)) b):
  if Region.wanted o (yielded ops a.tmps)=true then Oper.wp prog o a w K Q else E:=by
 have k:Region.wanted o (yielded ops a.tmps)=true:=by simp[Region.wanted,hg]
 rw[if_pos k];have⟨cap,b,d,e,q,n,f⟩:=pF h hl o.type (c:=c) g i;unfold Oper.wp execOp;simp only[r,resolve,invoke,builtin,Sem.run_bind,Sem.run_pure,Result.andThen_ok,EL,CP,C3,m,hx,e];exact l cap b d q n f
theorem SG {R:Nat->Prop}{W:World}{N:Stil.B9}{a:List Stil.CC}{f e d:Value}{b:Nat}(g:b=W.heap.size)(h1:Bi R W f N.one.args)(j:Dp R W e N.kids)(i:Bi R W d a)(k:R b):
  N9 R (W.alloc (.cells #[AB aK,d] 51)) [AB N.kind,AB N.one.op,f,e,AE (some (AK b 0)) 1 1,AG] ⟨N,[⟨aK,a⟩],[]⟩:=
 ⟨_,_,_,_,rfl,h1.keep (Ac.of_below (Aa _ _)),j.keep (Ac.of_below (Aa _ _)),Yk (ns:=[⟨aK,a⟩]) g (RowOf.one (cs:=[AB aK,d]) rfl ⟨_,rfl,i⟩) k AU,Qr _ _⟩
theorem SE {N:Stil.B9}{a:List Stil.CC}{k:Nat}(b:Kw N)(i:G9 N<=k)(f:-1000000<=aK/\aK<=1000000)(g:∀d∈a,Small d)(hl:a.length<=3):Jj ⟨N,[⟨aK,a⟩],[]⟩/\Gs ⟨N,[⟨aK,a⟩],[]⟩<=k+10:=by
 refine⟨(G5 _ _ _).2 ⟨b,λc e=>?_,λ_ h=>BE⟩,?_⟩
 ·rw[List.mem_singleton.1 e];exact⟨f,g,by show a.length<=100000;omega⟩
 ·rw[Fv]
  simp only[Gx,Pv,CH,CO,CP,C3,DW,FH];omega
theorem mN {A:Stil.B8}(h:Gs A<=2000):A.kids.length<=2000:=by
 obtain⟨n,b,a⟩:=A;have:=Fv n b a
 show a.length<=_
 omega
theorem i4 {A X:Stil.B8}(b:Jj A)(d:Gs A<=2000)(hx:Jj X)(e:Gs X<=3010):Jj ⟨A.net,A.coils,A.kids++[X]⟩/\Gs ⟨A.net,A.coils,A.kids++[X]⟩<=6000:=by
 obtain⟨n,f,g⟩:=A;have h:=(G5 _ _ _).1 b;refine⟨(G5 _ _ _).2 ⟨h.1,h.2.1,λx a=>?_⟩,?_⟩
 ·rcases List.mem_append.1 a with a | a
  ·exact h.2.2 x a
  ·rw[List.mem_singleton.1 a];exact hx
 ·rw[Fv] at d ⊢
  simp only[CM,CU,GV,CH,CO,CP,C3,DW,FH];omega
theorem fG (g P:Nat)(w:World)(hr:Ig w g P)(hP:P<=100000):
  Calls prog 16 #[AH g] w λe w'=>NA e w w' g (P+500000) 6000 104:=by
 have hg:=Va hr;go_enter func16,ntmps16;go_upto_region 2 with(go_at_call_of 37 (Value.int IntKind.i64 6);refine(Fp g _ _ _ Ab AQ AQ AQ).mono ?_;rintro e wa ⟨x,rfl,aO,an,sK,aj⟩)
 have aL:=aj.size;clear hr;by_cases hx:x=0
 ·subst hx
  go_wp2_with (first | (go_at_call_of 39 (3:Nat);refine(X9 g _ _ _ [15,16,17] _ Ab AQ (Cm (by simp[Fz,go_sem])) AU BO AU AU).mono ?_;rintro e wb ⟨y,rfl,hy,z,L⟩;simp only[DF,Da,DK] at hy;obtain⟨m,rfl⟩:∃m:Nat,y=m:=⟨y.toNat,AQ⟩) | (go_at_call 38;refine(OY m g _ _ AQ Ab AQ).mono ?_;rintro e f ⟨N,v1,v2,rfl,l,B,ht,ap,z,U⟩;have F:=AV l;have HN:=AV B;obtain⟨I,G,rfl,-⟩:=l;obtain⟨H,K,rfl,-⟩:=B) | (go_at_call 40;refine(Pg g _ _ Ab AQ).mono ?_;rintro e we ⟨aK,ev,C,rfl,bQ,dG,fJ,nR,z,ag⟩;have HE:=AV (Ew dG);obtain⟨ea,ec,rfl,_,_⟩:=dG))
  have s1:=L.size;have s2:=U.size;have s3:=ag.size;simp only[World.size_alloc] at s1;have i:∀{u v:World},u.grownBy v (some g)->Ac (λb=>w.heap.size<=b) u v:=λh=>Ac.of_grown h (λb d e=>by simp only[CZ] at e;omega)
  have hc:=SG (aK:=aK) (W:=we) rfl ((F.mono (λb _ d=>by omega)).keep (i ag)) ((HN.mono (λb _ d=>by omega)).keep (i ag)) (HE.mono (λb _ d=>by omega)) (show w.heap.size<=we.heap.size by omega);have hT:=SE ht ap bQ fJ nR;go_ret;refine⟨[⟨N,[⟨aK,C⟩],[]⟩],_,rfl,Ln (ns:=[⟨N,[⟨aK,C⟩],[]⟩]) (b:=we.heap.size+1) AU (RowOf.one rfl hc) AQ AU,?_,AU,A2,A0⟩;intro a Y;rw[List.mem_singleton.1 Y];exact⟨hT.1,AQ⟩
 by_cases an:x=1
 ·subst an
  go_wp2_with (first | (go_at_call_of 39 (3:Nat);refine(X9 g _ _ _ [7,8,9] _ Ab AQ (Cm (by simp[Fz,go_sem])) AU BO AU AU).mono ?_;rintro e wb ⟨y,rfl,hy,z,L⟩;simp only[DF,Da,DK] at hy;obtain⟨m,rfl⟩:∃m:Nat,y=m:=⟨y.toNat,AQ⟩) | (go_at_call 41;refine(OD m g _ _ AQ Ab AQ).mono ?_;rintro e f ⟨A,av,nv,cv,kv,rfl,l,B,Q,q,af,ai,ah,z,U⟩;have F:Hid (N9 (λb=>wb.heap.size<=b) f [AB A.net.kind,AB A.net.one.op,av,nv,cv,kv] A):=⟨av,nv,cv,kv,rfl,l,B,Q,q⟩;obtain⟨I,G,rfl,-⟩:=l;obtain⟨H,K,rfl,-⟩:=B;obtain⟨S,f3,rfl,-⟩:=Q;obtain⟨M,rfl⟩:=af;have q:=q))
  have s1:=L.size;have s2:=U.size;simp only[World.size_alloc] at s1;go_ret;refine⟨[A],_,rfl,Ln (ns:=[A]) (b:=f.heap.size) rfl (RowOf.one rfl (F.mono (λb _ d=>by omega))) AQ AU,?_,AU,A2,A0⟩;intro a Y;rw[List.mem_singleton.1 Y];exact⟨ai,AQ⟩
 by_cases aB:x=2
 ·subst aB
  go_upto_region 8 with(first | (go_at_call_of 37 (Value.int IntKind.i64 4);refine(Fp g _ _ _ Ab AQ AQ AQ).mono ?_;rintro e wb ⟨y,rfl,aF,aE,z,L⟩;obtain⟨m,rfl⟩:∃m:Nat,y=m:=⟨y.toNat,AQ⟩) | (go_at_call 41;refine(OD m g _ _ AQ Ab AQ).mono ?_;rintro e f ⟨A,av,nv,cv,kv,rfl,l,B,Q,q,af,ai,ah,z,U⟩;have F:Hid (N9 (λb=>wb.heap.size<=b) f [AB A.net.kind,AB A.net.one.op,av,nv,cv,kv] A):=⟨av,nv,cv,kv,rfl,l,B,Q,q⟩;obtain⟨I,G,rfl,-⟩:=l;obtain⟨H,K,rfl,-⟩:=B;obtain⟨S,f3,rfl,-⟩:=Q;obtain⟨M,rfl⟩:=af;have q:=q))
  have s1:=L.size;have s2:=U.size;have⟨V,t⟩:=AA (f.alloc (.cells #[AB A.net.kind,AB A.net.one.op,AE I A.net.one.args.length G,AE H A.net.kids.length K,AE S A.coils.length f3,AE M A.kids.length A.kids.length] 62))
  have dR:Hid (N9 (λb=>w.heap.size<=b/\b≠f.heap.size) V [AB A.net.kind,AB A.net.one.op,AE I A.net.one.args.length G,AE H A.net.kids.length K,AE S A.coils.length f3,AE M A.kids.length A.kids.length] A):=by rw[t];exact N9.keep (w:=f) (F.mono λb d h=>⟨AQ,AQ⟩) (Ac.of_below (Aa _ _))
  have qX:Hid (Em (λb=>w.heap.size<=b/\b≠f.heap.size) V (AE M A.kids.length A.kids.length) A.kids):=by rw[t];exact Em.keep (q.mono λb d h=>⟨AQ,AQ⟩) (Ac.of_below (Aa _ _))
  have aa:Lr V f.heap.size A.net.kind A.net.one.op (AE I A.net.one.args.length G) (AE H A.net.kids.length K) (AE S A.coils.length f3) (AE M A.kids.length A.kids.length):=by rw[t];exact BG
  have aM:Ig V g (P+6000):=by rw[t];exact F6 (Bl z _) AQ
  have aw:w.grownBy V (some g):=by rw[t];exact A0
  have sV:f.heap.size+1=V.heap.size:=by rw[t];simp
  have ao:=AV aa;have⟨J,n,s⟩:=aa.c5;have kl:=mN ah;have i:∀{u v:World},u.grownBy v (some g)->Ac (λb=>w.heap.size<=b/\b≠f.heap.size) u v:=λh=>Ac.of_grown h (λb d e=>by have:=d.1;simp only[CZ] at e;omega)
  have T:∀(u:World) (o:Obj),Ac (λb=>w.heap.size<=b/\b≠f.heap.size) u (u.alloc o):=λu o=>Ac.of_below (Aa _ _)
  rw[<-t];clear t F q z aa sK;rename_i aA;have ar:=MS aA;clear aA
  go_region_law (first | (refine ov rfl _ _ rfl (R:=(λb=>w.heap.size<=b/\b≠f.heap.size)) (Em.keep (Em.keep (((qX.keep (i Z)).keep (i aY)).keep (i D)) (T _ _)) (T _ _)) kl rfl [AB N.kind,AB N.one.op,AE d1 N.one.args.length k1,AE d2 N.kids.length k2,AE (some (AL j 0)) 1 1,AG] rfl rfl BP ?_;intro cap w6 xs ak al O;have yM:=AV (((ab.alloc _).alloc _).grownO (grown_below O none) AU);clear n s;have⟨J,n,s⟩:=yM.c5) | (go_simp;go_at_call_of 39 (4:Nat);refine(X9 g _ _ _ [14,15,16,17] _ Ab AQ (Cm (by simp[Fz,go_sem])) AU BO AU AU).mono ?_;rintro e w3 ⟨y3,rfl,ax,bK,aP⟩;simp only[DF,Da,DK] at ax;obtain⟨m3,rfl⟩:∃m:Nat,y3=m:=⟨y3.toNat,AQ⟩;have Z:V.grownBy w3 (some g):=A0;have ae:=AV (ao.grownO Z BA);clear n s;have⟨J,n,s⟩:=ae.c5) | (go_simp;go_at_call 38;refine(OY m3 g _ _ AQ Ab AQ).mono ?_;rintro e w4 ⟨N,u1,u2,rfl,h1,h2,ay,au,fF,aY⟩;have H1:=AV h1;have H2:=AV h2;obtain⟨d1,k1,rfl,-⟩:=h1;obtain⟨d2,k2,rfl,-⟩:=h2;have ac:=AV (ae.grownO aY BA);clear n s;have⟨J,n,s⟩:=ac.c5) | (go_simp;go_at_call 40;refine(Pg g _ _ Ab AQ).mono ?_;rintro e j ⟨aK,ev,C,rfl,bQ,dG,fJ,nR,gG,D⟩;have H3:=AV (Ew dG);obtain⟨ea,ec,rfl,_,_⟩:=dG;have ab:=AV (ac.grownO D BA);clear n s;have⟨J,n,s⟩:=ab.c5))
  all_goals
   have aA:=ar.out;have s3:=Z.size;have s4:=aY.size;have s5:=D.size;have hc:=SG (R:=(λb=>w.heap.size<=b/\b≠f.heap.size)) (aK:=aK) (W:=j) rfl ((H1.mono (λb _ d=>⟨AQ,AQ⟩)).keep (i D)) ((H2.mono (λb _ d=>⟨AQ,AQ⟩)).keep (i D)) (H3.mono (λb _ d=>⟨AQ,AQ⟩)) ⟨AQ,AQ⟩;have hT:=SE ay au bQ fJ nR;have⟨X,E⟩:=AA (w6.setCell (AL f 5) (AE (some (AK (j.heap.size+1+1) 0)) (A.kids.length+1) cap))
   have kX:Ac (λb=>w.heap.size<=b/\b≠f.heap.size) ((j.alloc (.cells #[AB aK,AE ea C.length ec] 51)).alloc (.cells #[AB N.kind,AB N.one.op,AE d1 N.one.args.length k1,AE d2 N.kids.length k2,AE (some (AL j 0)) 1 1,AG] 62)) X:=by rw[E];exact(Ac.of_below O).trans (Ac.set (λh=>h.2 rfl) _)
   have el:(A.kids++[(⟨N,[⟨aK,C⟩],[]⟩:Stil.B8)]).length=A.kids.length+1:=AU
   have az:Em (λb=>w.heap.size<=b) X (AE (some (AK (j.heap.size+1+1) 0)) (A.kids.length+1) cap) (A.kids++[⟨N,[⟨aK,C⟩],[]⟩]):=by
    have ho:X.ownsRow (j.heap.size+1+1) 62 6 (AE (some (AK (j.heap.size+1+1) 0)) (A.kids.length+1) cap) (A.kids.length+1) (xs++[AB N.kind,AB N.one.op,AE d1 N.one.args.length k1,AE d2 N.kids.length k2,AE (some (AL j 0)) 1 1,AG]):=by rw[E];exact ownsRow_setCell_below (by simpa using al) (show f.heap.size<j.heap.size+1+1 by omega) _
    rw[<-el] at ho ⊢;exact Fq ho (((ak.imp λ_ _ _ h=>h.keep kX).append (RowOf.one rfl ((hc.keep (T _ _)).keep kX))).imp λ_ _ _ h=>h.mono λb _ d=>d.1) (λb d=>by have:=(ho.lt _ d).1;omega)
   obtain⟨_,_,_,_,hh,hd,hn,he,-⟩:=((((dR.keep (i Z)).keep (i aY)).keep (i D)).keep (T _ _) |>.keep (T _ _)).keep kX;simp only[List.cons.injEq,true_and,E0] at hh;obtain⟨rfl,rfl,rfl,rfl⟩:=hh;obtain⟨J,q6,q7,q8,q9,aN,n,p6,p7,p8,p9,aG,s⟩:Lr X f.heap.size A.net.kind A.net.one.op (AE I A.net.one.args.length G) (AE H A.net.kids.length K) (AE S A.coils.length f3) (AE (some (AK (j.heap.size+1+1) 0)) (A.kids.length+1) cap):=by rw[E];exact yM.set5
   have aJ:Ig X g (P+20000):=by rw[E];exact F6 (J8 (Fj (Bl (Bl gG _) _) (grown_below O none) (λk hk=>by cases hk)) AQ _) AQ
   have aD:w.grownBy X (some g):=by rw[E];exact Lj (show w.heap.size<=f.heap.size by omega) (D5 (Ea (Ea (D5 (D5 (D5 aw Z) aY) D) _) _) (grown_below O _)) _
   have sX:=J;rw[<-E];clear E yM ab ac ae ao al O ak qX dR H1 H2 H3 hc kX
   go_wp2
   go_ret;refine⟨[⟨A.net,A.coils,A.kids++[⟨N,[⟨aK,C⟩],[]⟩]⟩],_,rfl,Ln (ns:=[⟨A.net,A.coils,A.kids++[⟨N,[⟨aK,C⟩],[]⟩]⟩]) (b:=X.heap.size) rfl (RowOf.one rfl ⟨_,_,_,_,rfl,hd.mono λb _ d=>d.1,hn.mono λb _ d=>d.1,he.mono λb _ d=>d.1,az⟩) AQ AU,?_,AU,A2,A0⟩;intro a Y;rw[List.mem_singleton.1 Y];exact i4 ai ah hT.1 hT.2
 ·go_wp2_with (go_at_call 42;refine(jE g _ _ sK AQ).mono ?_;rintro e w1 ⟨aC,v,rfl,l,ht,hl,sO,lY⟩)
  go_ret;exact⟨aC,_,rfl,l.mono (λb _ d=>by omega),ht,hl,F6 sO AQ,D5 aj lY⟩
theorem qV (u:Value)(w:World)(hu:BytesAt w u):
  Calls prog 4 #[u] w λe j=>SU e w j 6000 104:=by
 have b:=AV hu;obtain⟨n,m,o,rfl,-,-,-⟩:=hu;go_enter func4,ntmps4
 go_wp2_with (first | (go_at_call 17;refine(fo _ _ b.out).mono ?_;rintro e r ⟨rfl,k,g⟩) | (go_at_call 16;refine(fG w.heap.size 0 _ k AQ).mono ?_;rintro e s ⟨l,v,rfl,i,a,f,q,d⟩))
 go_ret;exact⟨l,_,rfl,i.at,a,f,nE (D5 (grown_below g _) d) (CG _)⟩
