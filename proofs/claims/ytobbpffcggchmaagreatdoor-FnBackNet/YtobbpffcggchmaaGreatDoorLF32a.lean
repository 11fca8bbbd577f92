import Derived.Test.YtobbpffcggchmaaGreatDoorCH3
import Derived.Test.YtobbpffcggchmaaGreatDoorCI1
import Derived.Test.YtobbpffcggchmaaGreatDoorCI3
import Derived.Test.YtobbpffcggchmaaGreatDoorLWN
import Derived.Test.YtobbpffcggchmaaGreatDoorD50
import Derived.Test.YtobbpffcggchmaaGreatDoorKe
import Derived.Conc.LeavingOf
namespace Go.Co
open Stil
open Go.Conc
section
variable {P : Program}{Stop : Goroutine -> World -> Prop}{w : World}
theorem A28 {g:Goroutine}(h:OkG g->Comes P g w Stop):Comes P g w Stop:=λd sl t hF c=>h c d sl t hF c
end
end Go.Co
namespace Go.Proofs.YtobbpffcggchmaaGreatDoor
open Tryz
open Stil
open Go.RowKit Go.Sort Go.BigFrame Go.Conc Go.Co
variable {B:Nat}{w':World}
structure Blw (B:Nat)(w w':World):Prop where
 os:w'.os=w.os
 out:w'.output=w.output
 size:w.heap.size<=w'.heap.size
 block:∀k,k<B->w'.heap[k]?=w.heap[k]?
theorem Blw.trans {a b c:World}(h:Blw B a b)(k:Blw B b c):Blw B a c:=⟨k.os.trans h.os,k.out.trans h.out,A9f h.size k.size,λi hi=>(k.block i hi).trans (h.block i hi)⟩
theorem Blw.of {w:World}(h:Below B w w'):Blw B w w':=⟨h.os,h.output,h.size,h.block⟩
theorem Blw.le {c:Nat}{w:World}(h:Blw B w w')(d:c<=B):Blw c w w':=⟨h.os,h.out,h.size,λk e=>h.block k (A82 e d)⟩
theorem Blw.tape {w:World}(h:Blw B w w')(d:Nat):Below B w {w' with tape:=w.tape,drawn:=d}:=⟨h.os,rfl,h.out,h.size,h.block⟩
def Tp (w w':World):Prop:=∃c d,w'={w with tape:=c,drawn:=d}
theorem Tp.refl (w:World):Tp w w:=⟨w.tape,w.drawn,rfl⟩
theorem Tp.al {w w1 f:World}(h:Tp w w1)(k:Al (λx=>x=w1) f):Tp w f:=by
 obtain⟨p,d,rfl⟩:=h;obtain⟨n,m,h⟩:=k;refine⟨f.tape,f.drawn,?_⟩;have j:=congrArg World.heap h;have g:=congrArg World.os h;have l:=congrArg World.output h;obtain⟨a,b,c,d,e⟩:=f;simp only at j g l;subst j g l;rfl
theorem Azk (n:Stil.Net):Bc n=0->Ae1 n:=by
 refine Et (λn=>Bc n=0->Ae1 n) ?_ n;intro k e kids g h;rw[Aq7];have f:=(Abk _ _ _).1 (Stil.full_of _ h);refine⟨?_,f.1,λx d=>g x d (Qc h x d)⟩;rcases F8 h with⟨c,_⟩ | ⟨c,_⟩ | ⟨c,_⟩<;>omega
theorem A7e {n:Stil.Net}(h:Kz n)(g:Cj n)(j:Stil.nsz n<=400):Ayp n:=by
 refine⟨(Es g).2.1.2.1,?_,λx c=>⟨?_,?_⟩⟩
 ·rcases h with h | h
  ·rw[Abe h];exact Ban _
  ·by_cases d:Bl n=true
   ·rw[Abe d];exact Ban _
   ·have e:Stil.nsz n=Aj n:=if_neg d
    rw[e,D9 n] at j;have:=Fz n.kids
    omega
 ·unfold Ij at c
  split at c
  ·cases c
  ·rename_i d
   have f:=h.resolve_left d;split at c
   ·exact Azk x (Qc f.2.2 x c)
   ·rw[List.mem_singleton.1 c];exact Azk n f.2.2
 ·have:=A0j n x c
  omega
theorem A7g (a:Stil.Arm):Ht a->D7 a->Ed a<=400->Agh a:=by
 refine I9 (λa=>Ht a->D7 a->Ed a<=400->Agh a) ?_ a;intro n cs kids r s l t;obtain⟨_,e⟩:=(Ic _ _ _).1 s;obtain⟨_,_,_,_,d⟩:=(Gh _ _ _).1 l;rw[Ey] at t;have y:=Aer kids;have f:∀x∈kids,Ed x<=400:=λx c=>by
  have:Ed x<=Jv kids:=Hr Ed kids x c;omega
 rw[Aq8];refine⟨omz,omz,λx c=>?_,λx c=>r x c (e x c) (d x c) (f x c)⟩;have m:=f x c;have g:=e x c;have q:=d x c;obtain⟨j,u,z⟩:=x;rw[Ey] at m;exact A7e (n:=j) ((Ic _ _ _).1 g).1 ((Gh _ _ _).1 q).1 omz
def A3p (w:World)(base:Nat)(v:Value)(c:List MI):Prop:=∃B,base<=B/\w.ownsRow B 48 3 v c.length (Eu c)/\(∀x∈c,EOk w base x.e)/\(bl (c.map (·.e.av))).Nodup/\∀k∈bl (c.map (·.e.av)),base<=k/\k<B
theorem Aqz:∀{c:List Value},c.Pairwise Aside->(bl c).Nodup
 | [],_=>Bcd
 | v::c,h=>by
  obtain⟨f,l⟩:=List.pairwise_cons.1 h;have d:=Aqz l;unfold bl at*;rw[List.filterMap_cons];split
  ·exact d
  ·rename_i k e
   refine List.nodup_cons.2 ⟨λj=>?_,d⟩;obtain⟨u,hu,g⟩:=List.mem_filterMap.1 j;exact(f u hu).no e g
theorem Asp {w:World}{base e s n:Nat}{v:Value}{xs:List Value}(h:w.ownsRow 0 e s v n xs)(c:∀k,v.ownBlock=some k->base<=k):w.ownsRow base e s v n xs:=by
 refine⟨h.1,?_⟩;rcases h.2 with d | ⟨g,cap,cur,hv,_,rest⟩
 ·exact .inl d
 ·exact .inr ⟨g,cap,cur,hv,c g yDg,rest⟩
theorem A4o {w₀:World}{f:Dw->Nat->List MI}:∀(cs:List Nat) (d:List Dw),cs.length=d.length->(∀m∈d,∀c,MIs w₀ m.vals (f m c) (J9 m.arm))->MIs w₀ (Il d) (Xp f cs d).flatten ((d.map Dw.arm).map J9).flatten
 | [],[],_,_=>MIs.nil
 | [],_::_,h,_=>by cases h
 | _::_,[],h,_=>by cases h
 | c::cs,m::d,h,g=>by
  have j:=A4o cs d yBc λx hx=>g x yBj
  have e:Xp f (c::cs) (m::d)=f m c::Xp f cs d:=rfl;have l:Il (m::d)=m.vals++Il d:=rfl;rw[e,l,Bag,A9l,A9l,Bag];exact(g m spz c).append j
set_option maxRecDepth 100000 in
set_option maxHeartbeats 4000000 in
theorem Ats (l:List Stil.Arm)(u:Value)(w:World)(hr:Ei w)(hg:Em w)(aF:Eb w u l)(hl:l.length<=1048576)(aE:Ce l<=1000000000)(Q:∀x∈l,D7 x):
  Aav prog 9 #[u] w λv w'=>∃j:List MI,j.map MI.inst=Nr l/\A3p w' w.heap.size v j/\Blw w.heap.size w w':=by
 intro K cs Stop hn;have I:∃T N blk tl id ops,Tryz.f9.body=some (.seq T (.seq N (.seq (.seq (.region id ops false) blk) (.seq tl .ret)))):=⟨_,_,_,_,_,_,rfl⟩
 obtain⟨T,N,blk,tl,id,ops,I⟩:=I;refine A28 λaz=>?_
 have aK:∀c∈K::cs,Zi c:=az.2;clear az;rw[Go.Co.enter_at #[u] func9 I];simp only[ntmps9,A86,A84,A85,Nat.reduceAdd,Nat.reduceSub,A9w,A9x,A92,A9z,A9u,A9t];have aj:∀(v:Value) (w':World) (r:Tape) (d:Nat),(∃(a:Option Addr) (c:Nat) (j:List Dw),v=.slice a j.length c/\j.map Dw.arm=Bh l/\Ue {w' with tape:=r,drawn:=d} w.heap.size (.slice a j.length c) j/\Blw w.heap.size w {w' with tape:=r,drawn:=d})->
   ∃(a:Option Addr) (c:Nat) (j:List Dw),v=.slice a j.length c/\j.map Dw.arm=Bh l/\Ue w' w.heap.size (.slice a j.length c) j/\Blw w.heap.size w w':=by
  rintro v w' r d ⟨a,c,j,t,M,h3,D⟩;have e:Ue {w' with tape:=r,drawn:=d} w.heap.size (.slice a j.length c) j=Ue w' w.heap.size (.slice a j.length c) j:=krz
  exact⟨a,c,j,t,M,e ▸ h3,D.os,D.out,D.size,D.block⟩
 have ai:∀an,Tp w an->Aav prog 29 #[u] an λv w'=>∃(a:Option Addr) (c:Nat) (j:List Dw),v=.slice a j.length c/\j.map Dw.arm=Bh l/\Ue w' w.heap.size (.slice a j.length c) j/\Blw w.heap.size w w':=by
  rintro _ ⟨aS,d0,rfl⟩;refine(Apq okP (Post:=λv w'=>∃(a:Option Addr) (c:Nat) (j:List Dw),v=.slice a j.length c/\j.map Dw.arm=Bh l/\Ue w' w.heap.size (.slice a j.length c) j/\Blw w.heap.size w w') fun r d=>?_).mono λv w' ⟨r,d,h⟩=>aj v w' r d h
  have e1:Ei {w with tape:=r,drawn:=d}=Ei w:=krz
  have e2:Em {w with tape:=r,drawn:=d}=Em w:=krz
  have e3:Eb {w with tape:=r,drawn:=d} u l=Eb w u l:=krz
  refine(Ahu l u {w with tape:=r,drawn:=d} (e1 ▸ hr) (e2 ▸ hg) (e3 ▸ aF) hl aE Q).mono λe w' h=>?_
  obtain⟨⟨a,c,j,rfl,t,M⟩,H⟩:=h;exact⟨_,rfl,a,c,j,rfl,t,M,H.os,H.output,H.size,H.block⟩
 have bK:=λ(Low:Nat) (w₀:World) (j:List Dw) (f:Dw->Nat->List MI) (aa:Option Addr) (cap:Nat) (Stop:Goroutine->World->Prop) t M h3 D h5 h6 wo h7 zM aM=>A6h (Low:=Low) (Stop:=Stop) w₀ j f aa cap t M h3 D h5 h6 (λ_=>False) wo h7 u zM I aM
 have jG:=I;unfold Tryz.f9 at jG;dsimp only at jG;cases jG;refine Xj okP λw1 h=>?_
 have t1:=(Tp.refl w).al h;refine Tq okP λw2 h=>?_
 have t2:=t1.al h;simp only[A86,A84,A85,A9c,List.range,List.range.loop];refine X7 okP rfl rrz yDa (v:=.slice none 0 0) (λ_=>by go_simp) (λ_=>by simp[go_sem]) λw3 h=>?_
 have t3:=t2.al h;refine Afa okP λw4 h=>?_
 have t4:=t3.al h;refine Xj okP λw5 h=>?_
 have t5:=t4.al h;refine Tq okP λw6 h=>?_
 have t6:=t5.al h;simp only[A86,A84,A85,A9c,List.range,List.range.loop];refine X7 okP rfl rrz yDa (v:=.slice none 0 0) (λ_=>by go_simp) (λ_=>by simp[go_sem]) λw7 h=>?_
 have t7:=t6.al h;refine Afa okP λw8 h=>?_
 have t8:=t7.al h;refine Xj okP λw9 h=>?_
 have t9:=t8.al h;refine Xj okP λaP h=>?_
 have ak:=t9.al h;refine Tq okP λaQ h=>?_
 have au:=ak.al h;simp only[A86,A84,A85,Nat.reduceAdd,A9c,List.range,List.range.loop];refine X7 okP rfl rrz yDa (v:=u) (λ_=>by go_simp) (λ_=>by simp[go_sem]) λaT h=>?_
 have ah:=au.al h;clear t1 t2 t3 t4 t5 t6 t7 t8 t9 ak au h;refine Ah0 okP rfl rrz yDa rfl func29 rfl (vals:=#[u]) (by simp[Act.eval,Act.put]) (λw' h=>ai w' (ah.al h)) λv n hp=>?_
 clear ai aj ah;obtain⟨aa,cap,j,rfl,af,E,A⟩:=hp;have aL:=Joins.ownsRow_le E.1 (Ban _);have wV:∀m∈j,VOk n.heap.size n m:=λm q=>⟨(E.2.1 m q).le (Ban _),λx C k s=>((E.2.1 m q).lt m x C k s).2⟩
 have aw:=Z8 Q;have jC:∀m∈j,Agh m.arm/\Ae1 m.net.net/\Aj m.net.net<=1000000:=λm q=>by
  have U:m.arm∈Bh l:=by rw[<-af];exact Ba2 q
  by_cases h0:(Dc l).1=0
  ·obtain⟨hR,_,_⟩:=Abc Q h0
   have V:=hR _ U;have jZ:m.arm.net=m.net.net:=by rw[Dw.arm_eq]
   have t:=V.net;rw[jZ] at t;refine⟨A7g _ V.fineA (aw.1 _ U) V.size,Azk _ t.2.2,?_⟩;have hs:=V.size;have e:m.arm=⟨m.arm.net,m.arm.coils,m.arm.kids⟩:=by generalize m.arm=x;cases x;rfl
   rw[e,Ey,jZ] at hs;have:=Stil.size_le m.net.net
   omega
  ·rw[show Bh l=[] by unfold Bh;rw[if_neg h0]] at U
   cases U
 obtain⟨f,hf⟩:∃f:Dw->Nat->List MI,∀m∈j,∀c,MIs n m.vals (f m c) (J9 m.arm)/\∀w O,Held n.heap.size n O w->okS prog n.heap.size c ((f m c).map MI.val) O w (born prog (dcall 63 #[.chan (some c), .agg #[.int .i64 m.net.kind, .int .i64 m.net.op,m.net.av,m.net.kv,m.cv,m.kv]])):=by
  classical
  refine⟨λm c=>if h:∃vs,MIs n m.vals vs (J9 m.arm)/\∀w O,Held n.heap.size n O w->okS prog n.heap.size c (vs.map MI.val) O w (born prog (dcall 63 #[.chan (some c), .agg #[.int .i64 m.net.kind, .int .i64 m.net.op,m.net.av,m.net.kv,m.cv,m.kv]])) then h.choose else [],λm q c=>?_⟩;have h:=A7q (c:=c) n m (jC m q).1 (jC m q).2.1 (jC m q).2.2 (wV m q);simp only[h,dite_true];exact h.choose_spec
 have ap:Nr l=((j.map Dw.arm).map J9).flatten:=by unfold Nr;rw[af]
 have nJ:=λ(cs:List Nat) (h:cs.length=j.length)=>A4o (w₀:=n) (f:=f) cs j h λm q c=>(hf m q c).1
 have aR:j.length<=40:=by have:=aw.2.2;rw[<-af,A9j] at this;exact this
 refine Comes.then (S:=λg' w'=>(∃(y:Act) (v:Value),g'=G {(base 9).at y [.code .ret] with mode:=.returning} (K::cs)/\y.defers=[]/\ResultsC prog Tryz.f9 y.tmps v/\∃j:List MI,j.map MI.inst=Nr l/\A3p w' w.heap.size v j/\Blw w.heap.size w w')/\OkG g') ?_ ?_
 ·refine Aml (Low:=n.heap.size) (O:=λ_=>False) (λ_ h=>h.elim) (A88 _) (λg w h=>h.2) ?_
  refine bK n.heap.size n j f aa cap _ (λi hi=>?_) wV (λm q c w O hF=>(hf m q c).2 w O hF) omz (λcs' ac=>?_) (λm q c x C=>(hf m q c).1.2.1 x C) n ⟨λ_ _=>rfl,A88 _,λ_ h=>h.elim,rfl,rfl⟩ (K::cs) ?_
  ·obtain⟨y,aN,e,_,z⟩:=Q8 aL
   cases e;obtain⟨g0,g1,g2,g3,g4,g5⟩:=U0 j i hi;obtain⟨b,ha,H,T⟩:=z _ _ g0;obtain⟨b1,ay,_,N⟩:=z _ _ g1;obtain⟨b2,ao,_,c2⟩:=z _ _ g2;obtain⟨b3,pW,_,c3⟩:=z _ _ g3;obtain⟨b4,wS,_,c4⟩:=z _ _ g4;obtain⟨b5,wR,_,c5⟩:=z _ _ g5;rw[ha] at ay ao pW wS wR;cases ay;cases ao;cases pW;cases wS;cases wR;refine⟨b,0,ha,(E.1.lt b H).2,?_⟩;unfold Agu Wl;rw[A9c];exact⟨⟨T,N,c2,c3⟩,c4,c5⟩
  ·have t:=congrArg List.length (nJ cs' ac).1
   rw[A9j,<-ap] at t;rw[t];have:=Aeb Q
   omega
  ·intro y w' v cs' hd W ac ae hF
   have J:=nJ cs' ac;have aD:=hF.still;have R:∀k∈bl (((Xp f cs' j).flatten).map (·.e.av)),w.heap.size<=k/\k<n.heap.size:=λk s=>by
    have aI:=J.2.2.subset s;obtain⟨aA,hu,gu⟩:=List.mem_filterMap.1 aI;obtain⟨m,q,aH⟩:=Nj.1 hu;exact(E.2.1 m q).lt m aA aH k gu
   have Y:=J.1.trans ap.symm;have ab:=(Aqz (List.pairwise_cons.1 E.2.2).2).sublist J.2.2;have ag:=J.2.1;clear J
   revert ae R Y ab ag
   generalize (Xp f cs' j).flatten=L;intro ae R Y ab ag;have aB:A3p w' w.heap.size v L:=by
    refine⟨n.heap.size,A.size,ae,λx C=>?_,ab,R⟩;have ax:=λk s=>R k (List.mem_filterMap.2 ⟨x.e.av,Ba2 (f:=λaJ:MI=>aJ.e.av) C,s⟩)
    exact Asp (S9 (ag x C) λk s=>aD k (ax k s).2) λk s=>(ax k s).1
   have aG:Blw w.heap.size w w':=⟨hF.os.trans A.os,hF.out.trans A.out,A9f A.size hF.low,λk s=>(hF.still k (A82 s A.size)).trans (A.block k s)⟩
   have aC:OkG (G {(base 9).at y [.code .ret] with mode:=.returning} (K::cs)):=by
    refine⟨λi hi=>?_,aK⟩;have :=List.mem_singleton.1 hi;rw[this];trivial
   exact⟨⟨y,v,rfl,hd,W,L,Y,aB,aG⟩,aC⟩
 ·rintro g' w' _ ⟨⟨y,v,rfl,hd,W,Z,hi,hO,X⟩,_⟩
  refine Ux okP (fr':=K.finish v) (cs':=cs) (λar=>?_) λaO h=>?_
  ·exact stepG_leave (b:=base 9) rfl hd func9 (W ar).1 (W ar).2
  ·obtain⟨r,d,rfl⟩:=(Tp.refl w').al h
   have e:A3p {w' with tape:=r,drawn:=d} w.heap.size v Z=A3p w' w.heap.size v Z:=krz
   exact hn v _ ⟨Z,hi,e ▸ hO,X.os,X.out,X.size,X.block⟩
end Go.Proofs.YtobbpffcggchmaaGreatDoor
namespace Stil
theorem Un {k:Int}(h:i64 k):(O6 k).fits:=⟨h,by unfold i64;simp[O6],by simp[O6],λd hd=>by cases hd⟩
theorem Ali {k:Int}{n:Net}(e:k=2\/k=3)(d:Cj n)(h:∀x∈Az n,x.fits):∀x∈Dq k n,x.fits:=by
 intro x c;unfold Dq Awl at c;split at c
 ·rw[List.mem_singleton.1 c];exact⟨by unfold i64;simp only;omega,(Es d).2.1⟩
 ·rcases List.mem_append.1 c with c | c
  ·exact h x c
  ·rw[List.mem_singleton.1 c];exact Un yCi
theorem Ve (n:Net):Bc n=0->Cj n->∀x∈Az n,x.fits:=by
 refine Et (λn=>Bc n=0->Cj n->∀x∈Az n,x.fits) ?_ n;intro k e kids j m t x c;have d:=(Gt _ _ _).1 t;have f:=Qc m;simp only at f;rcases F8 m with⟨rfl,rfl⟩ | ⟨A,s,_⟩ | ⟨rfl,_,y,rfl,_⟩
 ·rw[Jp] at c
  rw[List.mem_singleton.1 c];exact⟨by unfold i64;simp only;omega,d.2.1⟩
 ·cases kids with
  | nil=>simp at s
  | cons y r=>
   rw[H7 e y r omz omz] at c;rcases List.mem_append.1 c with c | c
   ·exact j y spz (f y spz) (d.2.2.2 y spz) x c
   ·obtain⟨l,u,q⟩:=List.mem_flatten.1 c
    obtain⟨z,g,rfl⟩:=List.mem_map.1 u;exact Ali omz (d.2.2.2 z (by simp[g])) (j z (by simp[g]) (f z (by simp[g])) (d.2.2.2 z (by simp[g]))) x q
 ·rw[Jq] at c
  rcases List.mem_append.1 c with c | c
  ·exact j y spz (f y spz) (d.2.2.2 y spz) x c
  ·rw[List.mem_singleton.1 c];exact Un yCi
theorem Ac3 {n:Net}(h:Kz n)(e:Cj n):∀x∈Ir n,x.fits:=by
 intro x p;obtain⟨l,g,j⟩:=List.mem_flatten.1 p;obtain⟨y,c,rfl⟩:=List.mem_map.1 g;have d:Bc y=0/\Cj y:=by
  unfold Ij at c;split at c
  ·cases c
  ·rename_i m
   have f:=h.resolve_left m;split at c
   ·exact⟨Qc f.2.2 y c,(Es e).2.2.2 y c⟩
   ·rw[List.mem_singleton.1 c];exact⟨f.2.2,e⟩
 exact Ali (.inl rfl) d.2 (Ve y d.1 d.2) x j
theorem Afx (a:Arm):Ht a->D7 a->∀x∈Iu a,x.fits:=by
 refine I9 (λa=>Ht a->D7 a->∀x∈Iu a,x.fits) ?_ a;intro n cs kids u z t x e;obtain⟨_,j⟩:=(Ic _ _ _).1 z;obtain⟨_,_,m,_,g⟩:=(Gh _ _ _).1 t;rw[U6] at e;rcases List.mem_append.1 e with e | e
 ·obtain⟨c,s,rfl⟩:=List.mem_map.1 e
  exact⟨by unfold i64;simp only;omega,m c s⟩
 ·obtain⟨l,r,d⟩:=List.mem_flatten.1 e
  obtain⟨i,hi,rfl⟩:=List.mem_iff_getElem.1 r;simp only[List.length_mapIdx] at hi;simp only[List.getElem_mapIdx,Tz,A2u,A9g] at d;have f:=A9a hi;rcases d with d | d | d
  ·unfold Hz at d
   split at d
   ·cases d
   ·split at d
    ·rw[List.mem_singleton.1 d];exact Un yCi
    ·split at d<;>(rw[List.mem_singleton.1 d];exact Un yCi)
  ·have A:=j _ f
   have q:=g _ f;generalize kids[i]=y at*;obtain⟨E,D,C⟩:=y;exact Ac3 ((Ic _ _ _).1 A).1 ((Gh _ _ _).1 q).1 x d
  ·exact u _ f (j _ f) (g _ f) x d
theorem Asn {l:List Arm}(f:∀x∈l,D7 x):∀x∈Nr l,x.fits:=by
 intro x s;obtain⟨r,m,j⟩:=List.mem_flatten.1 s;obtain⟨a,c,rfl⟩:=List.mem_map.1 m;by_cases g:(Dc l).1=0
 ·have d:=(Abc f g).1 a c
  have e:=(Z8 f).1 a c;have q:=d.net;have n:=d.fineA;clear d;unfold J9 at j;rcases List.mem_append.1 j with h | h
  ·exact Ve _ q.2.2 (H5 e).1 x h
  ·rcases List.mem_append.1 h with h | h
   ·exact Afx a n e x h
   ·rw[List.mem_singleton.1 h];exact Un yCi
 ·rw[show Bh l=[] by unfold Bh;rw[if_neg g]] at c
  cases c
end Stil
namespace Go.Proofs.YtobbpffcggchmaaGreatDoor
open Tryz
open Go.RowKit Go.Sort Go.BigFrame Go.Co
def IPk (base:Nat)(w:World)(L:List Stil.F7)(v:Value)(b:Nat)(qs:List (List Pl)):Prop:=
 A0p w v b 0 qs/\Aic w (Ou b 0 qs)/\(Ou b 0 qs).Nodup/\(∀p∈Ou b 0 qs,base<=p.1)/\(0<qs.length->base<=b)/\Afr base w v L/\(Ou b 0 qs).length<=4611686018427387000
theorem Ayt (b:Nat):∀(o:Nat) (qs:List (List Pl)) (N:Nat),(∀q∈qs,q.length<=N)->(Ou b o qs).length<=qs.length*(N+2)
 | _,[],_,_=>by simp[Ou]
 | o,q::r,N,h=>by
  have c:=Ayt b (o+3) r N λx hx=>h x yBj
  have d:=h q spz;rw[Ou];simp only[A84,A83,Nat.add_mul,Nat.one_mul];omega
theorem A3p.pk {w:World}{base:Nat}{v:Value}{c:List MI}(h:A3p w base v c)(Z:∀x∈c,x.e.ds.length<=1048576)(hl:c.length<=1048576):∃b qs,IPk base w (c.map MI.inst) v b qs:=by
 obtain⟨B,K,C,A,s,Y⟩:=h;by_cases T:c.length=0
 ·obtain rfl:=List.length_eq_zero_iff.1 T
  obtain⟨a,cap,rfl⟩:=Ac C;refine⟨0,[],⟨⟨a,cap,rfl,λh=>yBb⟩,λi hi=>(by cases hi)⟩,λp j=>(by cases j),Bcd,λp j=>(by cases j),λh=>yBb,⟨a,cap,rfl,λi hi=>(by cases hi)⟩,by simp[Ou]⟩
 obtain⟨g,cap,R,J,X,ag,z⟩:=Cf C omz;have aa:=λx d=>Apa (A x d)
 obtain⟨f,n⟩:∃f:MI->List Pl,∀x∈c,Anc x.e.av (f x)/\Aic w (f x)/\(f x).Nodup/\(∀p∈f x,base<=p.1/\x.e.av.ownBlock=some p.1)/\(f x).length=3*x.e.ds.length:=by
  classical
  refine⟨λx=>if h:∃t:List Pl,Anc x.e.av t/\Aic w t/\t.Nodup/\(∀p∈t,base<=p.1/\x.e.av.ownBlock=some p.1)/\t.length=3*x.e.ds.length then h.choose else [],λx d=>?_⟩;have h:=aa x d;simp only[h,dite_true];exact h.choose_spec
 have Q:∀i (h:i<c.length),w.cell? ⟨g,i*3,none⟩=some (.int .i64 c[i].code)/\w.cell? ⟨g,i*3+1,none⟩=some (.int .i64 c[i].e.op)/\w.cell? ⟨g,i*3+2,none⟩=some c[i].e.av:=by
  intro i hi;have ak:∀(l:List MI) (i:Nat) (h:i<l.length),(Eu l)[i*3]?=some (.int .i64 l[i].code)/\(Eu l)[i*3+1]?=some (.int .i64 l[i].e.op)/\(Eu l)[i*3+2]?=some l[i].e.av:=by
   intro l;induction l with
   | nil=>intro i h;cases h
   | cons m r S=>
    intro i h;have e:Eu (m::r)=.int .i64 m.code::.int .i64 m.e.op::m.e.av::Eu r:=rfl;cases i with
    | zero=>exact⟨rfl,rfl,rfl⟩
    | succ i=>
     obtain⟨D,O,I⟩:=S i yBc;have e1:(i+1)*3=i*3+1+1+1:=omz
     rw[e,e1];exact⟨D,O,I⟩
  obtain⟨D,O,I⟩:=ak c i hi;exact⟨z _ _ D,z _ _ O,z _ _ I⟩
 have W:∀x∈c,∀p∈f x,p.1≠g:=λx d p j e=>by
  obtain⟨_,_,_,G,_⟩:=n x d;have h5:=Y p.1 (List.mem_filterMap.2 ⟨x.e.av,Ba2 (f:=λy:MI=>y.e.av) d,(G p j).2⟩);omega
 have aj:=Aoq (w:=w) (b:=g) (cap:=cap) (l:=c.map MI.inst) (qs:=c.map f) X spz (λi hi=>by
   simp only[A9j] at hi;obtain⟨M,H,N⟩:=Q i hi;obtain⟨h1,_⟩:=n c[i] (A9a hi);simp only[Bat];exact⟨M,H,_,N,h1,A7.of_owns (A _ (A9a hi))⟩) (λo=>by
   have ab:=C;rw[R] at ab;exact ab.frozenAt o) (λq u=>by
   obtain⟨x,d,rfl⟩:=List.mem_map.1 u;obtain⟨_,V,h3,_⟩:=n x d;exact⟨V,h3,W x d⟩) (by
   rw[List.pairwise_map];have j:c.Pairwise λx y=>∀k,x.e.av.ownBlock=some k->y.e.av.ownBlock≠some k:=by
    clear Q W n aa z C A Z hl T Y R ag;induction c with
    | nil=>exact List.Pairwise.nil
    | cons m r S=>
     rw[A9l] at s;unfold bl at s;rw[List.filterMap_cons] at s;refine List.pairwise_cons.2 ⟨λy E k hk ae=>?_,?_⟩
     ·rw[hk] at s
      exact(List.nodup_cons.1 s).1 (List.mem_filterMap.2 ⟨y.e.av,Ba2 (f:=λan:MI=>an.e.av) E,ae⟩)
     ·refine S ?_
      unfold bl
      revert s
      cases m.e.av.ownBlock with
      | none=>exact id
      | some k=>exact λh=>(List.nodup_cons.1 h).2
   refine j.imp_of_mem fun {x y} d E af p al ai=>?_
   obtain⟨_,_,_,G,_⟩:=n x d;obtain⟨_,_,_,ac,_⟩:=n y E
   exact af p.1 (G p al).2 (ac p ai).2)
 obtain⟨U,s2,s3,_⟩:=aj;rw[A9j] at U;rw[R];refine⟨g,c.map f,U,s2,s3,λp j=>?_,λ_=>by omega,?_,?_⟩
 ·rcases Um g _ 0 p j with⟨i,_,e | e⟩ | ⟨q,u,ah⟩
  ·rw[e];exact A9f K J
  ·rw[e];exact A9f K J
  ·obtain⟨x,d,rfl⟩:=List.mem_map.1 u
   exact((n x d).2.2.2.1 p ah).1
 ·refine⟨some ⟨g,0,none⟩,cap,by rw[A9j],λi hi=>?_⟩
  simp only[A9j] at hi;obtain⟨M,H,N⟩:=Q i hi;simp only[Bat];refine⟨g,0,rfl,A9f K J,X,?_⟩;rw[A9c];exact⟨M,H,_,N,I5.of_owns (A _ (A9a hi))⟩
 ·have:=Ayt g 0 (c.map f) 3145728 λq u=>by
   obtain⟨x,d,rfl⟩:=List.mem_map.1 u;have:=(n x d).2.2.2.2
   have:=Z x d
   omega
  rw[A9j] at this;have V:c.length*(3145728+2)<=1048576*(3145728+2):=Bak _ hl;omega
section
variable {base : Nat}{w w' : World}{L : List Stil.F7}{v : Value}{b : Nat}{qs : List (List Pl)}
end
end Go.Proofs.YtobbpffcggchmaaGreatDoor
namespace Go.Co
open Go.Conc
variable {P:Program}{a:Act}
theorem Px {R:Act->World->Prop}{c:Code}{l:List Code}{w:World}(h:c.wp P (Exit.then (WpL P R l) λ_ _ _=>False) a w):WpL P R (c::l) a w:=h
theorem Avz {R:Act->World->Prop}{w:World}(h:R a w):WpL P R [] a w:=h
theorem Az0 {Stop:Goroutine->World->Prop}{w:World}(t:OkP P){f:FuncId}{args:Array Value}{v:Value}{Post:World->Prop}(h:∀j d,Calls P f args {w with tape:=j,drawn:=d} λe w'=>e=.returned v/\Post w')
  (u:∀(c:Frame) (w' W:World),c.leaving P W (.returned v)->c.fn=f->Al Post w'->Comes P (G c []) w' Stop):Comes P (G (Frame.enter P f args .normal) []) w Stop:=by
 refine Uw t (λr w'=>∃c,r=G c []/\c.leaving P w' (.returned v)/\c.fn=f/\Post w') rfl (λg w ⟨c,h,_⟩=>by rw[h];rfl) (fun j d=>?_) ?_
 ·obtain⟨e,w',q,⟨rfl,p⟩,⟨n,s⟩,l,m⟩:=h j d []
  exact⟨n,G q [],w',s,q,rfl,m,l,p⟩
 ·rintro r w' ⟨j,d,c,rfl,m,l,p⟩
  exact u c w' _ m l ⟨j,d,p⟩
end Go.Co
namespace Go.Proofs.YtobbpffcggchmaaGreatDoor
open Tryz
open Go.RowKit Go.Sort Go.BigFrame Go.Co
theorem A3p.insts {w:World}{base:Nat}{v:Value}{d:List MI}{L:List Stil.F7}(h:A3p w base v d)(c:d.map MI.inst=L)(f:∀x∈L,x.fits)(hl:L.length<=800):Ja w v L:=by
 obtain⟨b,q,e⟩:=h.pk (λx g=>(f _ (by rw[<-c];exact Ba2 g)).2.2.1) (by rw[<-c,A9j] at hl;omega);rw[c] at e;exact e.2.2.2.2.2.1.at
def A8t (F:FuncId)(w:World)(g':Goroutine)(w':World):Prop:=∃c:Frame,g'=Go.Conc.G c []/\c.mode=.returning/\c.defers=[]/\c.kind=.normal/\c.fn=F/\c.tmps.getD 2 undef=.bool true/\Blw w.heap.size w w'
section
variable {w w' : World}{v : Value}
theorem Ja.blw {l:List Stil.F7}(h:Ja w v l)(c:Blw w.heap.size w w'):Ja w' v l:=by
 have e:Ja {w' with tape:=w.tape,drawn:=0} v l=Ja w' v l:=krz
 exact e ▸ h.below (c.tape 0)
theorem Ei.blw (h:Ei w)(c:Blw w.heap.size w w'):Ei w':=by
 have e:Ei {w' with tape:=w.tape,drawn:=0}=Ei w':=krz
 exact e ▸ h.below (c.tape 0)
theorem Em.blw (h:Em w)(c:Blw w.heap.size w w'):Em w':=by
 have e:Em {w' with tape:=w.tape,drawn:=0}=Em w':=krz
 exact e ▸ h.below (c.tape 0)
theorem Tp.blw {B:Nat}(h:Tp w w'):Blw B w w':=by obtain⟨c,d,rfl⟩:=h;exact⟨rfl,rfl,A88 _,λ_ _=>rfl⟩
end
section
open Go.Conc
variable {Stop : Goroutine -> World -> Prop}{a : Act}{w W0 : World}{b : Frame}{k : List Item}{cs : List Frame}{ops : Array Oper}{i : Nat}{rest : List Nat}{o : Oper}
theorem cP (t:Tp W0 w)(v:Value)(h:∀w',Tp W0 w'->Go.Co.Comes prog (G (b.at (a.put o.dst v) (.inRegion ops rest::k)) cs) w' Stop)(ho:ops[i]?=some o:=by rfl)(hw:Region.wanted o (yielded ops a.tmps)=true:=by rfl)(hk:b.kind≠.early:=by simp[Go.Conc.base])
  (hr:∀w₁:World,(execOp a.eval o).run prog w₁=.ok (.value v) w₁:=by(intro _;first | (simp[Act.put];go_simp;done) | (simp[Act.put];go_simp;simp[*];done) | (simp[Act.put, *];go_simp;done)))
  (he:∀w₁:World,(execOp a.eval o).events prog w₁ #[]=#[]:=by(intro _;first | (simp[go_sem];done) | rfl)):Go.Co.Comes prog (G (b.at a (.inRegion ops (i::rest)::k)) cs) w Stop:=X7 okP ho hw hk hr he λw' q=>h w' (t.al q)
theorem cN (t:Tp W0 w)(h:∀w',Tp W0 w'->Go.Co.Comes prog (G (b.at a k) cs) w' Stop):Go.Co.Comes prog (G (b.at a (.inRegion ops []::k)) cs) w Stop:=Afa okP λw' q=>h w' (t.al q)
theorem cR {c:Nat}{d:Code}(h:∀w',Tp w w'->Go.Co.Comes prog (G (b.at a (.inRegion ops (List.range ops.size)::.code d::k)) cs) w' Stop):Go.Co.Comes prog (G (b.at a (.code (.seq (.region c ops false) d)::k)) cs) w Stop:=Xj okP λ_ q=>Tq okP λw' e=>h w' (((Tp.refl w).al q).al e)
theorem cC (t:Tp W0 w){f:FuncId}{F:Func}{c:Code}{args:Array Operand}{ats:Array TypeId}(vals:Array Value){Post:Value->World->Prop}(hf:prog.funcs[f]?=some F)(hcall:∀w',Tp W0 w'->Aav prog f vals w' Post)
  (h:∀v w',Post v w'->Go.Co.Comes prog (G (b.at (a.put o.dst v) (.inRegion ops rest::k)) cs) w' Stop) (ho:ops[i]?=some o:=by rfl) (hw:Region.wanted o (yielded ops a.tmps)=true:=by rfl) (hk:b.kind≠.early:=by simp[Go.Conc.base])
  (hop:o.op=.call {callee:=.value (.func f),args,argTypes:=ats}:=by rfl) (hb:F.body=some c:=by rfl) (hargs:args.map a.eval=vals:=by simp[Act.eval,Act.put]):Go.Co.Comes prog (G (b.at a (.inRegion ops (i::rest)::k)) cs) w Stop:=Ah0 okP ho hw hk hop hf hb hargs (λw' q=>hcall w' (t.al q)) h
theorem Tp.lw {W w':World}(t:Tp W0 W)(c:Blw W.heap.size W w'):Blw W0.heap.size W0 w':=by obtain⟨e,d,rfl⟩:=t;exact⟨c.os,c.out,c.size,c.block⟩
end
open Go.Conc
variable {F:FuncId}{fn:Func}
theorem A25 (m:prog.funcs[F]?=some fn)(c:fn.results=#[.tmp 2])(g:prog.inits.idxOf? F=none){fr:Frame}(j:fr.mode=.returning)(hd:fr.defers=[])(h:fr.kind=.normal)(f:fr.fn=F)(e:fr.tmps.getD 2 undef=.bool true)(W:World):
  stepG prog true (G fr []) W=.ended (.done (.bool true)) W #[]:=by
 have d:=resultsC_tmp (P:=prog) c fr.tmps W;rw[e] at d;obtain⟨n,defers,kind,l⟩:=fr;simp_all[G,stepG,unwind,doReturn,seen,GStep.after]
theorem A27 {c:Code}(g:prog.funcs[F]?=some fn)(m:fn.body=some c)(r:fn.results=#[.tmp 2])(n:prog.inits.idxOf? F=none){args:Array Value}{W:World}{Post:Value->World->Prop}
  (h:Go.Co.Comes prog (G (Frame.enter prog F args .normal) []) W (A8t F W)) (s:∀w',Blw W.heap.size W w'->Post (.bool true) w'):
  ∃N last o w' f,runNT prog (N+1) (solo (G (Frame.enter prog F args .normal) []) W) #[]=(.ended o w',f)/\runN prog N (solo (G (Frame.enter prog F args .normal) []) W)=.next last/\step prog last=.ended o w'/\Conc.Good prog Post last o w' f:=by
 rw[Go.Co.enter_at args g m] at h ⊢;refine Ajd ⟨λi hi=>?_,λc l=>by cases l⟩ (h.mono λx w' _ hF d=>?_)
 ·obtain rfl:i=.code c:=by simpa[G,Frame.at,Go.Conc.base] using hi
  trivial
 ·obtain⟨y,rfl,u,hd,t,q,j,e⟩:=hF
  exact⟨rfl, .bool true,#[],A25 g r n u hd t q j _,spz,s _ ⟨e.os,e.out,e.size,e.block⟩⟩
end Go.Proofs.YtobbpffcggchmaaGreatDoor
