import Derived.Test.YtnpfcnolmkanfaaGreatDoorCH3
import Derived.Test.YtnpfcnolmkanfaaGreatDoorCI1
import Derived.Test.YtnpfcnolmkanfaaGreatDoorCI3
import Derived.Test.YtnpfcnolmkanfaaGreatDoorM57
import Derived.Test.YtnpfcnolmkanfaaGreatDoorGl
import Derived.Test.YtnpfcnolmkanfaaGreatDoorHg
import Derived.Test.YtnpfcnolmkanfaaGreatDoorGY
namespace Go.Co
open Stil
open Go.Conc
section
variable {P : Program}{Stop : Goroutine -> World -> Prop}{w : World}
theorem A0v {g:Goroutine}(h:OkG g->Comes P g w Stop):Comes P g w Stop:=λc sl t hF a=>h a c sl t hF a
end
end Go.Co
namespace Go.Proofs.YtnpfcnolmkanfaaGreatDoor
open Tryz
open Stil
open Go.RowKit Go.Sort Go.BigFrame Go.Conc Go.Co
variable {B:Nat}{w':World}
structure Blw (B:Nat)(w w':World):Prop where
 os:w'.os=w.os
 out:w'.output=w.output
 size:w.heap.size<=w'.heap.size
 block:∀k,k<B->w'.heap[k]?=w.heap[k]?
theorem Blw.trans {a b c:World}(h:Blw B a b)(k:Blw B b c):Blw B a c:=⟨k.os.trans h.os,k.out.trans h.out,A6e h.size k.size,λi hi=>(k.block i hi).trans (h.block i hi)⟩
theorem Blw.of {w:World}(h:Below B w w'):Blw B w w':=⟨h.os,h.output,h.size,h.block⟩
theorem Blw.le {a:Nat}{w:World}(h:Blw B w w')(d:a<=B):Blw a w w':=⟨h.os,h.out,h.size,λk c=>h.block k (A51 c d)⟩
theorem Blw.tape {w:World}(h:Blw B w w')(d:Nat):Below B w {w' with tape:=w.tape,drawn:=d}:=⟨h.os,rfl,h.out,h.size,h.block⟩
def Tp (w w':World):Prop:=∃a d,w'={w with tape:=a,drawn:=d}
theorem Tp.refl (w:World):Tp w w:=⟨w.tape,w.drawn,rfl⟩
theorem Tp.al {w w1 f:World}(h:Tp w w1)(k:Al (λx=>x=w1) f):Tp w f:=by
 obtain⟨m,d,rfl⟩:=h;obtain⟨l,n,h⟩:=k;refine⟨f.tape,f.drawn,?_⟩;have g:=congrArg World.heap h;have j:=congrArg World.os h;have i:=congrArg World.output h;obtain⟨a,b,c,d,e⟩:=f;simp only at g j i;subst g j i;rfl
theorem Axm (n:Stil.Net):Az n=0->Aet n:=by
 refine Gf (λn=>Az n=0->Aet n) ?_ n;intro k e kids f h;rw[Apw];have d:=(Abw _ _ _).1 (Stil.full_of _ h);refine⟨?_,d.1,λx a=>f x a (Uf h x a)⟩;rcases Jo h with⟨c,_⟩ | ⟨c,_⟩ | ⟨c,_⟩<;>omega
theorem A4w {n:Stil.Net}(h:Jq n)(f:Dt n)(g:Stil.nsz n<=400):Awy n:=by
 refine⟨(Ei f).2.1.2.1,?_,λx a=>⟨?_,?_⟩⟩
 ·rcases h with h | h
  ·rw[Abq h];exact A7l _
  ·by_cases c:Ar n=true
   ·rw[Abq c];exact A7l _
   ·have e:Stil.nsz n=Am n:=if_neg c
    rw[e,Ep n] at g;have:=Ku n.kids
    omega
 ·unfold Eh at a
  split at a
  ·cases a
  ·rename_i c
   have d:=h.resolve_left c;split at a
   ·exact Axm x (Uf d.2.2 x a)
   ·rw[List.mem_singleton.1 a];exact Axm n d.2.2
 ·have:=Al7 n x a
  omega
theorem A4z (a:Stil.Arm):Gm a->Cm a->Aw a<=400->Af4 a:=by
 refine Fz (λa=>Gm a->Cm a->Aw a<=400->Af4 a) ?_ a;intro n r kids k j q o;obtain⟨_,d⟩:=(Gu _ _ _).1 j;obtain⟨_,_,_,_,e⟩:=(Gi _ _ _).1 q;rw[Dp] at o;have t:=Rt kids;have f:∀x∈kids,Aw x<=400:=λx c=>by
  have:Aw x<=Ig kids:=Ed Aw kids x c;omega
 rw[Apx];refine⟨omz,omz,λx c=>?_,λx c=>k x c (d x c) (e x c) (f x c)⟩;have g:=f x c;have m:=d x c;have l:=e x c;obtain⟨i,u,s⟩:=x;rw[Dp] at g;exact A4w (n:=i) ((Gu _ _ _).1 m).1 ((Gi _ _ _).1 l).1 omz
def Amr (w:World)(base:Nat)(v:Value)(a:List MI):Prop:=∃B,base<=B/\w.ownsRow B 53 3 v a.length (Qp a)/\(∀x∈a,EOk w base x.e)/\(bl (a.map (·.e.av))).Nodup/\∀k∈bl (a.map (·.e.av)),base<=k/\k<B
theorem Apl:∀{a:List Value},a.Pairwise Aside->(bl a).Nodup
 | [],_=>A9a
 | v::a,h=>by
  obtain⟨e,f⟩:=List.pairwise_cons.1 h;have c:=Apl f;unfold bl at*;rw[List.filterMap_cons];split
  ·exact c
  ·rename_i k d
   refine List.nodup_cons.2 ⟨λi=>?_,c⟩;obtain⟨u,hu,g⟩:=List.mem_filterMap.1 i;exact(e u hu).no d g
theorem Aq9 {w:World}{base e s n:Nat}{v:Value}{xs:List Value}(h:w.ownsRow 0 e s v n xs)(a:∀k,v.ownBlock=some k->base<=k):w.ownsRow base e s v n xs:=by
 refine⟨h.1,?_⟩;rcases h.2 with c | ⟨g,cap,cur,hv,_,rest⟩
 ·exact .inl c
 ·exact .inr ⟨g,cap,cur,hv,a g yEc,rest⟩
theorem A19 {w₀:World}{f:Bj->Nat->List MI}:∀(d:List Nat) (a:List Bj),d.length=a.length->(∀m∈a,∀c,MIs w₀ m.vals (f m c) (J3 m.arm))->MIs w₀ (Hy a) (Xo f d a).flatten ((a.map Bj.arm).map J3).flatten
 | [],[],_,_=>MIs.nil
 | [],_::_,h,_=>by cases h
 | _::_,[],h,_=>by cases h
 | c::d,m::a,h,g=>by
  have j:=A19 d a yBi λx hx=>g x yCb
  have e:Xo f (c::d) (m::a)=f m c::Xo f d a:=rfl;have i:Hy (m::a)=m.vals++Hy a:=rfl;rw[e,i,A7f,A6k,A6k,A7f];exact(g m spz c).append j
set_option maxRecDepth 100000 in
set_option maxHeartbeats 4000000 in
theorem Aha (l:List Stil.Arm)(t:Value)(w:World)(hr:Em w)(hg:En w)(aP:Ea w t l)(hl:l.length<=1048576)(aC:Bv l<=1000000000)(M:∀x∈l,Cm x):
  Uy prog 9 #[t] w λv w'=>∃j:List MI,j.map MI.inst=F6 l/\Amr w' w.heap.size v j/\Blw w.heap.size w w':=by
 intro K u Stop hn;have J:∃R V blk tl id az,Tryz.f9.body=some (.seq R (.seq V (.seq (.seq (.region id az false) blk) (.seq tl .ret)))):=⟨_,_,_,_,_,_,rfl⟩
 obtain⟨R,V,blk,tl,id,az,J⟩:=J;refine A0v λau=>?_
 have aF:∀c∈K::u,Zx c:=au.2;clear au;rw[Go.Co.enter_at #[t] func9 J];simp only[ntmps9,A55,A53,A54,Nat.reduceAdd,Nat.reduceSub,A6v,A6w,A61,A6y,A6t,A6s];have ao:∀(v:Value) (w':World) (q:Tape) (d:Nat),(∃(a:Option Addr) (c:Nat) (j:List Bj),v=.slice a j.length c/\j.map Bj.arm=A7 l/\Qw {w' with tape:=q,drawn:=d} w.heap.size (.slice a j.length c) j/\Blw w.heap.size w {w' with tape:=q,drawn:=d})->
   ∃(a:Option Addr) (c:Nat) (j:List Bj),v=.slice a j.length c/\j.map Bj.arm=A7 l/\Qw w' w.heap.size (.slice a j.length c) j/\Blw w.heap.size w w':=by
  rintro v w' q d ⟨a,c,j,s,I,Z,F⟩;have e:Qw {w' with tape:=q,drawn:=d} w.heap.size (.slice a j.length c) j=Qw w' w.heap.size (.slice a j.length c) j:=krz
  exact⟨a,c,j,s,I,e ▸ Z,F.os,F.out,F.size,F.block⟩
 have an:∀aA,Tp w aA->Uy prog 21 #[t] aA λv w'=>∃(a:Option Addr) (c:Nat) (j:List Bj),v=.slice a j.length c/\j.map Bj.arm=A7 l/\Qw w' w.heap.size (.slice a j.length c) j/\Blw w.heap.size w w':=by
  rintro _ ⟨aV,d0,rfl⟩;refine(Zm okP (Post:=λv w'=>∃(a:Option Addr) (c:Nat) (j:List Bj),v=.slice a j.length c/\j.map Bj.arm=A7 l/\Qw w' w.heap.size (.slice a j.length c) j/\Blw w.heap.size w w') fun q d=>?_).mono λv w' ⟨q,d,h⟩=>ao v w' q d h
  have e1:Em {w with tape:=q,drawn:=d}=Em w:=krz
  have e2:En {w with tape:=q,drawn:=d}=En w:=krz
  have e3:Ea {w with tape:=q,drawn:=d} t l=Ea w t l:=krz
  refine(Abv l t {w with tape:=q,drawn:=d} (e1 ▸ hr) (e2 ▸ hg) (e3 ▸ aP) hl aC M).mono λe w' h=>?_
  obtain⟨⟨a,c,j,rfl,s,I⟩,E⟩:=h;exact⟨_,rfl,a,c,j,rfl,s,I,E.os,E.output,E.size,E.block⟩
 have aD:=λ(Low:Nat) (w₀:World) (j:List Bj) (f:Bj->Nat->List MI) (aa:Option Addr) (cap:Nat) (Stop:Goroutine->World->Prop) s I Z F h5 h6 wo h7 jo aN=>A3z (Low:=Low) (Stop:=Stop) w₀ j f aa cap s I Z F h5 h6 (λ_=>False) wo h7 t jo J aN
 have kN:=J;unfold Tryz.f9 at kN;dsimp only at kN;cases kN;refine Us okP λw1 h=>?_
 have t1:=(Tp.refl w).al h;refine Qb okP λw2 h=>?_
 have t2:=t1.al h;simp only[A55,A53,A54,A6b,List.range,List.range.loop];refine O7 okP rfl rrz yDg (v:=.slice none 0 0) (λ_=>by go_simp) (λ_=>by simp[go_sem]) λw3 h=>?_
 have t3:=t2.al h;refine Aa0 okP λw4 h=>?_
 have t4:=t3.al h;refine Us okP λw5 h=>?_
 have t5:=t4.al h;refine Qb okP λw6 h=>?_
 have t6:=t5.al h;simp only[A55,A53,A54,A6b,List.range,List.range.loop];refine O7 okP rfl rrz yDg (v:=.slice none 0 0) (λ_=>by go_simp) (λ_=>by simp[go_sem]) λw7 h=>?_
 have t7:=t6.al h;refine Aa0 okP λw8 h=>?_
 have t8:=t7.al h;refine Us okP λw9 h=>?_
 have t9:=t8.al h;refine Us okP λaU h=>?_
 have ai:=t9.al h;refine Qb okP λaS h=>?_
 have aB:=ai.al h;simp only[A55,A53,A54,Nat.reduceAdd,A6b,List.range,List.range.loop];refine O7 okP rfl rrz yDg (v:=t) (λ_=>by go_simp) (λ_=>by simp[go_sem]) λaR h=>?_
 have ay:=aB.al h;clear t1 t2 t3 t4 t5 t6 t7 t8 t9 ai aB h;refine Ab1 okP rfl rrz yDg rfl func21 rfl (vals:=#[t]) (by simp[Act.eval,Act.put]) (λw' h=>an w' (ay.al h)) λv n hp=>?_
 clear an ao ay;obtain⟨aa,cap,j,rfl,af,D,C⟩:=hp;have aI:=Joins.ownsRow_le D.1 (A7l _);have yZ:∀m∈j,VOk n.heap.size n m:=λm o=>⟨(D.2.1 m o).le (A7l _),λx z k r=>((D.2.1 m o).lt m x z k r).2⟩
 have ax:=Oe M;have kF:∀m∈j,Af4 m.arm/\Aet m.net.net/\Am m.net.net<=1000000:=λm o=>by
  have U:m.arm∈A7 l:=by rw[<-af];exact A7z o
  by_cases h0:(Bf l).1=0
  ·obtain⟨hR,_,_⟩:=Abp M h0
   have T:=hR _ U;have lT:m.arm.net=m.net.net:=by rw[Bj.arm_eq]
   have s:=T.net;rw[lT] at s;refine⟨A4z _ T.fineA (ax.1 _ U) T.size,Axm _ s.2.2,?_⟩;have hs:=T.size;have e:m.arm=⟨m.arm.net,m.arm.coils,m.arm.kids⟩:=by generalize m.arm=x;cases x;rfl
   rw[e,Dp,lT] at hs;have:=Stil.size_le m.net.net
   omega
  ·rw[show A7 l=[] by unfold A7;rw[if_neg h0]] at U
   cases U
 obtain⟨f,hf⟩:∃f:Bj->Nat->List MI,∀m∈j,∀c,MIs n m.vals (f m c) (J3 m.arm)/\∀w O,Held n.heap.size n O w->okS prog n.heap.size c ((f m c).map MI.val) O w (born prog (dcall 37 #[.chan (some c), .agg #[.int .i64 m.net.kind, .int .i64 m.net.op,m.net.av,m.net.kv,m.cv,m.kv]])):=by
  classical
  refine⟨λm c=>if h:∃vs,MIs n m.vals vs (J3 m.arm)/\∀w O,Held n.heap.size n O w->okS prog n.heap.size c (vs.map MI.val) O w (born prog (dcall 37 #[.chan (some c), .agg #[.int .i64 m.net.kind, .int .i64 m.net.op,m.net.av,m.net.kv,m.cv,m.kv]])) then h.choose else [],λm o c=>?_⟩;have h:=A47 (c:=c) n m (kF m o).1 (kF m o).2.1 (kF m o).2.2 (yZ m o);simp only[h,dite_true];exact h.choose_spec
 have aj:F6 l=((j.map Bj.arm).map J3).flatten:=by unfold F6;rw[af]
 have uB:=λ(u:List Nat) (h:u.length=j.length)=>A19 (w₀:=n) (f:=f) u j h λm o c=>(hf m o c).1
 have aW:j.length<=40:=by have:=ax.2.2;rw[<-af,A6i] at this;exact this
 refine Comes.then (S:=λY w'=>(∃(y:Act) (v:Value),Y=G {(base 9).at y [.code .ret] with mode:=.returning} (K::u)/\y.defers=[]/\ResultsC prog Tryz.f9 y.tmps v/\∃j:List MI,j.map MI.inst=F6 l/\Amr w' w.heap.size v j/\Blw w.heap.size w w')/\OkG Y) ?_ ?_
 ·refine Aln (Low:=n.heap.size) (O:=λ_=>False) (λ_ h=>h.elim) (A57 _) (λg w h=>h.2) ?_
  refine aD n.heap.size n j f aa cap _ (λi hi=>?_) yZ (λm o c w O hF=>(hf m o c).2 w O hF) omz (λcs' ab=>?_) (λm o c x z=>(hf m o c).1.2.1 x z) n ⟨λ_ _=>rfl,A57 _,λ_ h=>h.elim,rfl,rfl⟩ (K::u) ?_
  ·obtain⟨y,aQ,e,_,A⟩:=Q9 aI
   cases e;obtain⟨g0,g1,g2,g3,g4,g5⟩:=Rl j i hi;obtain⟨b,ha,E,R⟩:=A _ _ g0;obtain⟨b1,ap,_,V⟩:=A _ _ g1;obtain⟨b2,aw,_,c2⟩:=A _ _ g2;obtain⟨b3,rY,_,c3⟩:=A _ _ g3;obtain⟨b4,yX,_,c4⟩:=A _ _ g4;obtain⟨b5,yV,_,c5⟩:=A _ _ g5;rw[ha] at ap aw rY yX yV;cases ap;cases aw;cases rY;cases yX;cases yV;refine⟨b,0,ha,(D.1.lt b E).2,?_⟩;unfold Agf Wn;rw[A6b];exact⟨⟨R,V,c2,c3⟩,c4,c5⟩
  ·have s:=congrArg List.length (uB cs' ab).1
   rw[A6i,<-aj] at s;rw[s];have:=U8 M
   omega
  ·intro y w' v cs' hd W ab ae hF
   have H:=uB cs' ab;have aH:=hF.still;have Q:∀k∈bl (((Xo f cs' j).flatten).map (·.e.av)),w.heap.size<=k/\k<n.heap.size:=λk r=>by
    have aG:=H.2.2.subset r;obtain⟨aJ,hu,ql⟩:=List.mem_filterMap.1 aG;obtain⟨m,o,aK⟩:=Na.1 hu;exact(D.2.1 m o).lt m aJ aK k ql
   have X:=H.1.trans aj.symm;have ac:=(Apl (List.pairwise_cons.1 D.2.2).2).sublist H.2.2;have ah:=H.2.1;clear H
   revert ae Q X ac ah
   generalize (Xo f cs' j).flatten=L;intro ae Q X ac ah;have aE:Amr w' w.heap.size v L:=by
    refine⟨n.heap.size,C.size,ae,λx z=>?_,ac,Q⟩;have ak:=λk r=>Q k (List.mem_filterMap.2 ⟨x.e.av,A7z (f:=λaO:MI=>aO.e.av) z,r⟩)
    exact Aq9 (S9 (ah x z) λk r=>aH k (ak k r).2) λk r=>(ak k r).1
   have aL:Blw w.heap.size w w':=⟨hF.os.trans C.os,hF.out.trans C.out,A6e C.size hF.low,λk r=>(hF.still k (A51 r C.size)).trans (C.block k r)⟩
   have aM:OkG (G {(base 9).at y [.code .ret] with mode:=.returning} (K::u)):=by
    refine⟨λi hi=>?_,aF⟩;have :=List.mem_singleton.1 hi;rw[this];trivial
   exact⟨⟨y,v,rfl,hd,W,L,X,aE,aL⟩,aM⟩
 ·rintro Y w' _ ⟨⟨y,v,rfl,hd,W,ag,hi,hO,N⟩,_⟩
  refine Qc okP (fr':=K.finish v) (cs':=u) (λar=>?_) λaT h=>?_
  ·exact stepG_leave (b:=base 9) rfl hd func9 (W ar).1 (W ar).2
  ·obtain⟨q,d,rfl⟩:=(Tp.refl w').al h
   have e:Amr {w' with tape:=q,drawn:=d} w.heap.size v ag=Amr w' w.heap.size v ag:=krz
   exact hn v _ ⟨ag,hi,e ▸ hO,N.os,N.out,N.size,N.block⟩
end Go.Proofs.YtnpfcnolmkanfaaGreatDoor
namespace Stil
theorem Ul {k:Int}(h:i64 k):(Tz k).fits:=⟨h,by unfold i64;simp[Tz],by simp[Tz],λd hd=>by cases hd⟩
theorem Akt {k:Int}{n:Net}(d:k=2\/k=3)(c:Dt n)(h:∀x∈Fh n,x.fits):∀x∈Oh k n,x.fits:=by
 intro x a;unfold Oh Ava at a;split at a
 ·rw[List.mem_singleton.1 a];exact⟨by unfold i64;simp only;omega,(Ei c).2.1⟩
 ·rcases List.mem_append.1 a with a | a
  ·exact h x a
  ·rw[List.mem_singleton.1 a];exact Ul yDc
theorem Aaj (n:Net):Az n=0->Dt n->∀x∈Fh n,x.fits:=by
 refine Gf (λn=>Az n=0->Dt n->∀x∈Fh n,x.fits) ?_ n;intro k e kids g i o x a;have c:=(Lh _ _ _).1 o;have d:=Uf i;simp only at d;rcases Jo i with⟨rfl,rfl⟩ | ⟨s,j,_⟩ | ⟨rfl,_,y,rfl,_⟩
 ·rw[Zd] at a
  rw[List.mem_singleton.1 a];exact⟨by unfold i64;simp only;omega,c.2.1⟩
 ·cases kids with
  | nil=>simp at j
  | cons y r=>
   rw[Xc e y r omz omz] at a;rcases List.mem_append.1 a with a | a
   ·exact g y spz (d y spz) (c.2.2.2 y spz) x a
   ·obtain⟨l,m,q⟩:=List.mem_flatten.1 a
    obtain⟨z,f,rfl⟩:=List.mem_map.1 m;exact Akt omz (c.2.2.2 z (by simp[f])) (g z (by simp[f]) (d z (by simp[f])) (c.2.2.2 z (by simp[f]))) x q
 ·rw[Ze] at a
  rcases List.mem_append.1 a with a | a
  ·exact g y spz (d y spz) (c.2.2.2 y spz) x a
  ·rw[List.mem_singleton.1 a];exact Ul yDc
theorem Ac0 {n:Net}(h:Jq n)(d:Dt n):∀x∈Iy n,x.fits:=by
 intro x f;obtain⟨l,i,g⟩:=List.mem_flatten.1 f;obtain⟨y,a,rfl⟩:=List.mem_map.1 i;have c:Az y=0/\Dt y:=by
  unfold Eh at a;split at a
  ·cases a
  ·rename_i j
   have e:=h.resolve_left j;split at a
   ·exact⟨Uf e.2.2 y a,(Ei d).2.2.2 y a⟩
   ·rw[List.mem_singleton.1 a];exact⟨e.2.2,d⟩
 exact Akt (.inl rfl) c.2 (Aaj y c.1 c.2) x g
theorem Afp (a:Arm):Gm a->Cm a->∀x∈Iz a,x.fits:=by
 refine Fz (λa=>Gm a->Cm a->∀x∈Iz a,x.fits) ?_ a;intro n D kids o m u x e;obtain⟨_,g⟩:=(Gu _ _ _).1 m;obtain⟨_,_,q,_,j⟩:=(Gi _ _ _).1 u;rw[Y8] at e;rcases List.mem_append.1 e with e | e
 ·obtain⟨c,k,rfl⟩:=List.mem_map.1 e
  exact⟨by unfold i64;simp only;omega,q c k⟩
 ·obtain⟨l,r,d⟩:=List.mem_flatten.1 e
  obtain⟨i,hi,rfl⟩:=List.mem_iff_getElem.1 r;simp only[List.length_mapIdx] at hi;simp only[List.getElem_mapIdx,Tv,A0c,A6f] at d;have f:=A59 hi;rcases d with d | d | d
  ·unfold Ia at d
   split at d
   ·cases d
   ·split at d
    ·rw[List.mem_singleton.1 d];exact Ul yDc
    ·split at d<;>(rw[List.mem_singleton.1 d];exact Ul yDc)
  ·have t:=g _ f
   have s:=j _ f;generalize kids[i]=y at*;obtain⟨A,z,C⟩:=y;exact Ac0 ((Gu _ _ _).1 t).1 ((Gi _ _ _).1 s).1 x d
  ·exact o _ f (g _ f) (j _ f) x d
theorem Abm {l:List Arm}(e:∀x∈l,Cm x):∀x∈F6 l,x.fits:=by
 intro x j;obtain⟨r,k,i⟩:=List.mem_flatten.1 j;obtain⟨a,c,rfl⟩:=List.mem_map.1 k;by_cases f:(Bf l).1=0
 ·have d:=(Abp e f).1 a c
  have g:=(Oe e).1 a c;have n:=d.net;have m:=d.fineA;clear d;unfold J3 at i;rcases List.mem_append.1 i with h | h
  ·exact Aaj _ n.2.2 (Hq g).1 x h
  ·rcases List.mem_append.1 h with h | h
   ·exact Afp a m g x h
   ·rw[List.mem_singleton.1 h];exact Ul yDc
 ·rw[show A7 l=[] by unfold A7;rw[if_neg f]] at c
  cases c
end Stil
namespace Go.Proofs.YtnpfcnolmkanfaaGreatDoor
open Tryz
open Go.RowKit Go.Sort Go.BigFrame Go.Co
def IPk (base:Nat)(w:World)(L:List Stil.Tq)(v:Value)(b:Nat)(qs:List (List Pl)):Prop:=
 Ayy w v b 0 qs/\Aht w (Oj b 0 qs)/\(Oj b 0 qs).Nodup/\(∀p∈Oj b 0 qs,base<=p.1)/\(0<qs.length->base<=b)/\Afj base w v L/\(Oj b 0 qs).length<=4611686018427387000
theorem Aw1 (b:Nat):∀(o:Nat) (qs:List (List Pl)) (N:Nat),(∀q∈qs,q.length<=N)->(Oj b o qs).length<=qs.length*(N+2)
 | _,[],_,_=>by simp[Oj]
 | o,q::r,N,h=>by
  have c:=Aw1 b (o+3) r N λx hx=>h x yCb
  have a:=h q spz;rw[Oj];simp only[A53,A52,Nat.add_mul,Nat.one_mul];omega
theorem Amr.pk {w:World}{base:Nat}{v:Value}{c:List MI}(h:Amr w base v c)(Z:∀x∈c,x.e.ds.length<=1048576)(hl:c.length<=1048576):∃b qs,IPk base w (c.map MI.inst) v b qs:=by
 obtain⟨B,D,z,C,s,W⟩:=h;by_cases V:c.length=0
 ·obtain rfl:=List.length_eq_zero_iff.1 V
  obtain⟨a,cap,rfl⟩:=Aj z;refine⟨0,[],⟨⟨a,cap,rfl,λh=>yAi⟩,λi hi=>(by cases hi)⟩,λp j=>(by cases j),A9a,λp j=>(by cases j),λh=>yAi,⟨a,cap,rfl,λi hi=>(by cases hi)⟩,by simp[Oj]⟩
 obtain⟨g,cap,M,G,hg,ak,A⟩:=Bo z omz;have Y:=λx d=>Aoe (C x d)
 obtain⟨f,n⟩:∃f:MI->List Pl,∀x∈c,Amf x.e.av (f x)/\Aht w (f x)/\(f x).Nodup/\(∀p∈f x,base<=p.1/\x.e.av.ownBlock=some p.1)/\(f x).length=3*x.e.ds.length:=by
  classical
  refine⟨λx=>if h:∃t:List Pl,Amf x.e.av t/\Aht w t/\t.Nodup/\(∀p∈t,base<=p.1/\x.e.av.ownBlock=some p.1)/\t.length=3*x.e.ds.length then h.choose else [],λx d=>?_⟩;have h:=Y x d;simp only[h,dite_true];exact h.choose_spec
 have E:∀i (h:i<c.length),w.cell? ⟨g,i*3,none⟩=some (.int .i64 c[i].code)/\w.cell? ⟨g,i*3+1,none⟩=some (.int .i64 c[i].e.op)/\w.cell? ⟨g,i*3+2,none⟩=some c[i].e.av:=by
  intro i hi;have aa:∀(l:List MI) (i:Nat) (h:i<l.length),(Qp l)[i*3]?=some (.int .i64 l[i].code)/\(Qp l)[i*3+1]?=some (.int .i64 l[i].e.op)/\(Qp l)[i*3+2]?=some l[i].e.av:=by
   intro l;induction l with
   | nil=>intro i h;cases h
   | cons m r H=>
    intro i h;have e:Qp (m::r)=.int .i64 m.code::.int .i64 m.e.op::m.e.av::Qp r:=rfl;cases i with
    | zero=>exact⟨rfl,rfl,rfl⟩
    | succ i=>
     obtain⟨Q,O,J⟩:=H i yBi;have e1:(i+1)*3=i*3+1+1+1:=omz
     rw[e,e1];exact⟨Q,O,J⟩
  obtain⟨Q,O,J⟩:=aa c i hi;exact⟨A _ _ Q,A _ _ O,A _ _ J⟩
 have S:∀x∈c,∀p∈f x,p.1≠g:=λx d p j e=>by
  obtain⟨_,_,_,R,_⟩:=n x d;have h5:=W p.1 (List.mem_filterMap.2 ⟨x.e.av,A7z (f:=λy:MI=>y.e.av) d,(R p j).2⟩);omega
 have ag:=Anz (w:=w) (b:=g) (cap:=cap) (l:=c.map MI.inst) (qs:=c.map f) hg spz (λi hi=>by
   simp only[A6i] at hi;obtain⟨N,I,K⟩:=E i hi;obtain⟨h1,_⟩:=n c[i] (A59 hi);simp only[A7q];exact⟨N,I,_,K,h1,Dh.of_owns (C _ (A59 hi))⟩) (λo=>by
   have T:=z;rw[M] at T;exact T.frozenAt o) (λq u=>by
   obtain⟨x,d,rfl⟩:=List.mem_map.1 u;obtain⟨_,U,h3,_⟩:=n x d;exact⟨U,h3,S x d⟩) (by
   rw[List.pairwise_map];have j:c.Pairwise λx y=>∀k,x.e.av.ownBlock=some k->y.e.av.ownBlock≠some k:=by
    clear E S n Y A z C Z hl V W M ak;induction c with
    | nil=>exact List.Pairwise.nil
    | cons m r H=>
     rw[A6k] at s;unfold bl at s;rw[List.filterMap_cons] at s;refine List.pairwise_cons.2 ⟨λy F k hk af=>?_,?_⟩
     ·rw[hk] at s
      exact(List.nodup_cons.1 s).1 (List.mem_filterMap.2 ⟨y.e.av,A7z (f:=λab:MI=>ab.e.av) F,af⟩)
     ·refine H ?_
      unfold bl
      revert s
      cases m.e.av.ownBlock with
      | none=>exact id
      | some k=>exact λh=>(List.nodup_cons.1 h).2
   refine j.imp_of_mem fun {x y} d F ae p ai ac=>?_
   obtain⟨_,_,_,R,_⟩:=n x d;obtain⟨_,_,_,aj,_⟩:=n y F
   exact ae p.1 (R p ai).2 (aj p ac).2)
 obtain⟨X,s2,s3,_⟩:=ag;rw[A6i] at X;rw[M];refine⟨g,c.map f,X,s2,s3,λp j=>?_,λ_=>by omega,?_,?_⟩
 ·rcases Uk g _ 0 p j with⟨i,_,e | e⟩ | ⟨q,u,ah⟩
  ·rw[e];exact A6e D G
  ·rw[e];exact A6e D G
  ·obtain⟨x,d,rfl⟩:=List.mem_map.1 u
   exact((n x d).2.2.2.1 p ah).1
 ·refine⟨some ⟨g,0,none⟩,cap,by rw[A6i],λi hi=>?_⟩
  simp only[A6i] at hi;obtain⟨N,I,K⟩:=E i hi;simp only[A7q];refine⟨g,0,rfl,A6e D G,hg,?_⟩;rw[A6b];exact⟨N,I,_,K,I8.of_owns (C _ (A59 hi))⟩
 ·have:=Aw1 g 0 (c.map f) 3145728 λq u=>by
   obtain⟨x,d,rfl⟩:=List.mem_map.1 u;have:=(n x d).2.2.2.2
   have:=Z x d
   omega
  rw[A6i] at this;have U:c.length*(3145728+2)<=1048576*(3145728+2):=A7j _ hl;omega
section
variable {base : Nat}{w w' : World}{L : List Stil.Tq}{v : Value}{b : Nat}{qs : List (List Pl)}
end
end Go.Proofs.YtnpfcnolmkanfaaGreatDoor
