import Derived.Test.YtobbpffcggchmaaGreatDoorCD5
namespace Go.Co
open Go.Conc
section
variable {c j k:Nat}{y':Goroutine}{z:Value}
variable {P : Program}{Low : Nat}{n0 : Nat}{t₀ : Trace}{x : RC}{ow : Nat -> Nat -> Prop}{comps gK : List (SC ⊕ Nat)}{gs gs' : Array Goroutine}{w w' : World}{t u : Trace}
theorem PhI.park0 (h:PhI P Low n0 t₀ x ow comps gs w t){vs:List Value}{s:SC}(m:x.L[j]?=some (c,vs,false))(E:comps[n0+j]?=some (.inl s))(hg:gs[n0+j]?=some s.g)
  (C:stepG P true x.g w=.comm x.g #[rcase c z] true (.recv true) w #[]):PhI P Low n0 t₀ x ow comps (gs.setIfInBounds 0 (parked x.g #[rcase c z] (.recv true))) w t:=by
 have H:=h.pos;have o:0<gs.size:=by have:=(h.lt m).2.1;omega
 refine⟨h.pos,by simpa using h.len,h.c0,by simpa using h.siz,h.run,h.keep, .inr ⟨j,c,vs,z,w,m,h.keep,C, .inl ⟨by simp[o],s,E,by rw[Bi omz];exact hg⟩⟩,λi hi D=>?_,λk A n seen B=>?_,h.own0,h.ownS,h.chan,h.dist,h.ows,h.low,h.tr⟩
 ·obtain⟨q,y,b,a,d⟩:=h.old i hi D
  exact⟨q,y,b,by rw[Bi omz];exact a,d⟩
 ·have e:(gs.setIfInBounds 0 (parked x.g #[rcase c z] (.recv true)))[n0+k]?=gs[n0+k]?:=Bi omz
  rcases h.snd k A n seen B with⟨s,b,a,d,f,G,r,v,F⟩ | ⟨q,y,b,a,d,f⟩
  ·exact .inl ⟨s,b,a,d,f,G,r,v,by rw[e];exact F⟩
  ·exact .inr ⟨q,y,b,by rw[e];exact a,d,f⟩
theorem PhI.parkJ (h:PhI P Low n0 t₀ x ow comps gs w t){F:List Value}{v:Value}{s:SC}(D:x.L[j]?=some (c,F,false))(H:comps[n0+j]?=some (.inl s))(hg:gs[n0+j]?=some s.g)
  (U:∀A,gs[0]?≠some (parked x.g #[rcase c A] (.recv true)))
  (S:stepG P false s.g w=.comm s.g #[scase c v z] true .send w #[]):PhI P Low n0 t₀ x ow comps (gs.setIfInBounds (n0+j) (parked s.g #[scase c v z] .send)) w t:=by
 have X:=h.pos;obtain⟨V,R,W⟩:=h.lt D;refine⟨h.pos,by simpa using h.len,h.c0,by simpa using h.siz,h.run,h.keep,?_,λi hi T=>?_,λk E F seen G=>?_,h.own0,h.ownS,h.chan,h.dist,h.ows,h.low,h.tr⟩
 ·rcases h.zero with h0 | ⟨k,E,J,A,K,a,b,M,⟨d,N,e,f⟩ | ⟨d,e⟩⟩
  ·exact .inl yEe
  ·have O:k≠j:=by
    rintro rfl;rw[D] at a;cases a;exact U A d
   exact .inr ⟨k,E,J,A,K,a,b,M, .inl ⟨by rw[Bi omz];exact d,N,e,by rw[Bi omz];exact f⟩⟩
  ·exact .inr ⟨k,E,J,A,K,a,b,M, .inr ⟨by rw[Bi omz];exact d,e⟩⟩
 ·obtain⟨q,y,m,n,o⟩:=h.old i hi T
  exact⟨q,y,m,by rw[Bi omz];exact n,o⟩
 ·by_cases O:k=j
  ·subst O
   rw[D] at G;cases G;rcases h.snd k c _ _ D with⟨N,m,n,o,r,I,B,C,Q⟩ | ⟨q,y,m,n,o,r⟩
   ·rw[H] at m;cases m
    exact .inl ⟨s,H,n,o,r,I,B,C, .inr ⟨v,z,w,A9v R,B,C,S⟩⟩
   ·rw[H] at m;cases m
  ·have e:(gs.setIfInBounds (n0+j) (parked s.g #[scase c v z] .send))[n0+k]?=gs[n0+k]?:=Bi omz
   rcases h.snd k E F seen G with⟨s,m,n,o,r,I,B,C,Q⟩ | ⟨q,y,m,n,o,r⟩
   ·exact .inl ⟨s,m,n,o,r,I,B,C,by rw[e];exact Q⟩
   ·exact .inr ⟨q,y,m,by rw[e];exact n,o,r⟩
theorem PhI.close (h:PhI P Low n0 t₀ x ow comps gs w t){s:SC}{g':Goroutine}{n C v:Nat}(o:x.L[j]?=some (c,[],false))(hs:comps[n0+j]?=some (.inl s))(T:w.heap[c]?=some (.chan 0 #[] false C v false))(hq:QuitsIn P n g')
  (V:gs'.size=gs.size) (hJ:gs'[n0+j]?=some g') (J:∀l,l≠0->l≠n0+j->gs'[l]?=gs[l]?)
  (m:(gs'[0]?=gs[0]?/\∀z,gs[0]?≠some (parked x.g #[rcase c z] (.recv true)))\/∃z,gs[0]?=some (parked x.g #[rcase c z] (.recv true))/\gs'[0]?=some {parked x.g #[rcase c z] (.recv true) with status:=.running}) (fn:FuncId) (pos:String):
  PhI P Low n0 t₀ x ow (comps.set (n0+j) (.inr n)) gs' (w.shut c C v false) (t++MemOp.ofEvents (n0+j) fn pos #[⟨.obj c,false,true⟩,⟨.obj c,true,true⟩]):=by
 have hn:=h.pos;obtain⟨hj,ag,X⟩:=h.lt o;have N:Chg (λb=>b=c) w (w.shut c C v false):=Chg.put w c _;have W:Ap2 c (w.shut c C v false):=⟨C,v,heap_put T⟩
 obtain⟨Q,hO⟩:=h.part (S:=λb=>b=c) (k:=0) (by rintro b rfl;exact(h.chan j _ _ _ o).1);have aa:∀b,x.O b->b<w.heap.size/\¬b=c:=λb F=>⟨h.ows.up _ _ (h.own0 b F),λe=>(h.chan j _ _ _ o).2 (e ▸ F)⟩
 have Y:(w.shut c C v false).heap.size=w.heap.size:=by simp[World.shut]
 obtain⟨ab,af⟩:=h.tr.close (k:=n0+j) (c:=c) h.ows ⟨j,hj,rfl⟩ fn pos;refine⟨h.pos,by rw[V];simpa using h.len,by rw[A9d omz];exact h.c0,by rw[V];exact h.siz,h.run,h.keep.chg N aa Q,?_,λi hi ac=>?_,λk B Z seen G=>?_,h.own0,λk D A b F=>?_,h.chan,h.dist,by rw[Y];exact h.ows,by rw[Y];exact h.low,ab⟩
 ·rcases h.zero with U | ⟨k,B,R,E,K,a,b,M,⟨d,D,e,f⟩ | ⟨d,e⟩⟩
  ·rcases m with⟨m,_⟩ | ⟨z,m,_⟩
   ·exact .inl (by rw[m];exact U)
   ·rw[U] at m
    have:=congrArg Goroutine.status (A98 m)
    rw[h.run] at this;cases this
  ·by_cases r:k=j
   ·subst r
    rw[o] at a;cases a;rcases m with⟨_,m⟩ | ⟨z,m,I⟩
    ·exact absurd d (m E)
    ·rw[d] at m
     have hz:E=z:=by
      have:=congrArg Goroutine.offers (A98 m)
      simp[parked,rcase] at this;exact this
     subst hz;exact .inr ⟨k,c,[],E,K,o,b,M, .inr ⟨I,W⟩⟩
   ·have H:B≠c:=λe=>r (h.dist k j c _ _ _ _ (e ▸ a) o)
    rcases m with⟨m,_⟩ | ⟨z,m,I⟩
    ·exact .inr ⟨k,B,R,E,K,a,b,M, .inl ⟨by rw[m];exact d,D,by rw[A9d omz];exact e,by rw[J _ omz omz];exact f⟩⟩
    ·rw[d] at m
     have:=congrArg Goroutine.offers (A98 m)
     simp[parked,rcase] at this;exact absurd this.1 H
  ·rcases m with⟨m,_⟩ | ⟨z,m,I⟩
   ·have r:k≠j:=by
     rintro rfl;rw[o] at a;cases a;obtain⟨a1,a2,e⟩:=e;rw[T] at e;cases e
    have H:¬B=c:=λe=>r (h.dist k j c _ _ _ _ (e ▸ a) o)
    exact .inr ⟨k,B,R,E,K,a,b,M, .inr ⟨by rw[m];exact d,e.chg N H⟩⟩
   ·rw[d] at m
    have:=congrArg Goroutine.status (A98 m)
    simp[parked] at this
 ·obtain⟨q,y,h1,h2,h3⟩:=h.old i hi ac
  exact⟨q,y,by rw[A9d omz];exact h1,by rw[J _ omz omz];exact h2,Yx h3 (Kw omz)⟩
 ·by_cases r:k=j
  ·subst r
   rw[o] at G;cases G;exact .inr ⟨n,g',A9s X,hJ,hq,rfl,W,af,λe=>by cases e⟩
  ·exact(h.snd k B Z seen G).turn (A9d omz) (J _ omz omz) N (λD A=>hO (n0+k) D.O omz (h.ownS k D A)) Q (λe=>r (h.dist k j c _ _ _ _ (e ▸ G) o)) (λop ae e=>absurd e (Kw omz op ae))
 ·by_cases r:k=j
  ·subst r
   rw[A9s X] at A;cases A
  ·rw[A9d omz] at A
   exact h.ownS k D A b F
theorem PhI.slipOld (h:PhI P Low n0 t₀ x ow comps gs w t){i:Nat}{es:Array Event}(hi:0<i)(X:i<n0)(R:∀e∈es,Event.mute e=true)(T:QuitsD P k (deafBehind (Deaf t i) es) y')(fn:FuncId)(pos:String):
  PhI P Low n0 t₀ x ow (comps.set i (.inr k)) (gs.setIfInBounds i y') w (t++MemOp.ofEvents i fn pos es):=by
 have V:=h.siz;have W:=h.len;have I:Tr Low n0 x.L.length t₀ (t++MemOp.ofEvents i fn pos es) ow:=h.tr.silent λop s=>by
  obtain⟨e,G,rfl⟩:=Go.Conc.mem_ofEvents s;exact⟨touch_mute (R e G),λm=>by rcases m with m | m<;>(simp at m;omega)⟩
 obtain⟨D,N⟩:=h.part (S:=λ_=>False) (k:=0) (λb r=>r.elim);refine⟨h.pos,by simpa using h.len,by rw[A9d omz];exact h.c0,by simpa using h.siz,h.run,h.keep,?_,λl H K=>?_,λl o E seen F=>?_,h.own0,λl g n b r=>?_,h.chan,h.dist,h.ows,h.low,I⟩
 ·rcases h.zero with h0 | ⟨k,o,v,A,B,a,b,C,⟨d,g,e,f⟩ | ⟨d,e⟩⟩
  ·exact .inl yEe
  ·exact .inr ⟨k,o,v,A,B,a,b,C, .inl ⟨by rw[Bi omz];exact d,g,by rw[A9d omz];exact e,by rw[Bi omz];exact f⟩⟩
  ·exact .inr ⟨k,o,v,A,B,a,b,C, .inr ⟨by rw[Bi omz];exact d,e⟩⟩
 ·by_cases U:i=l
  ·subst U
   exact⟨k,y',A9s omz,A9v omz,by rw[Deaf_own];exact T⟩
  ·obtain⟨q,y,M,J,Q⟩:=h.old l H K
   exact⟨q,y,by rw[A9d omz];exact M,by rw[Bi omz];exact J,Yx Q (Kw omz)⟩
 ·exact(h.snd l o E seen F).turn (A9d omz) (Bi omz) (Chg.same w) (λg n=>N (n0+l) g.O (by have:=h.pos;omega) (h.ownS l g n)) D id (λop s e=>absurd e (Kw omz op s))
 ·rw[A9d omz] at n
  exact h.ownS l g n b r
theorem PhI.slipJ (h:PhI P Low n0 t₀ x ow comps gs w t){q:Nat}{e:Nat × List Value × Bool}(R:x.L[j]?=some e)(M:comps[n0+j]?=some (.inr q))(X:QuitsIn P k y'):
  PhI P Low n0 t₀ x ow (comps.set (n0+j) (.inr k)) (gs.setIfInBounds (n0+j) y') w t:=by
 have hn:=h.pos;obtain⟨Y,S,J⟩:=h.lt R;refine⟨h.pos,by simpa using h.len,by rw[A9d omz];exact h.c0,by simpa using h.siz,h.run,h.keep,?_,λl T U=>?_,λl r C seen H=>?_,h.own0,λl B v b O=>?_,h.chan,h.dist,h.ows,h.low,h.tr⟩
 ·rcases h.zero with h0 | ⟨k,r,D,F,G,a,b,I,⟨d,B,e,f⟩ | ⟨d,e⟩⟩
  ·exact .inl yEe
  ·have Z:k≠j:=by
    rintro rfl;rw[M] at e;cases e
   exact .inr ⟨k,r,D,F,G,a,b,I, .inl ⟨by rw[Bi omz];exact d,B,by rw[A9d omz];exact e,by rw[Bi omz];exact f⟩⟩
  ·exact .inr ⟨k,r,D,F,G,a,b,I, .inr ⟨by rw[Bi omz];exact d,e⟩⟩
 ·obtain⟨q,y,g,m,n⟩:=h.old l T U
  exact⟨q,y,by rw[A9d omz];exact g,by rw[Bi omz];exact m,n⟩
 ·by_cases A:l=j
  ·subst A
   rcases h.snd l r C seen H with⟨s,g,_⟩ | ⟨q,y,g,m,n,o⟩
   ·rw[M] at g;cases g
   ·exact .inr ⟨k,y',A9s J,A9v S,X,o⟩
  ·have E:(comps.set (n0+j) (.inr k))[n0+l]?=comps[n0+l]?:=A9d omz
   have K:(gs.setIfInBounds (n0+j) y')[n0+l]?=gs[n0+l]?:=Bi omz;rcases h.snd l r C seen H with⟨s,g,m,n,o,W,N,Q,V⟩ | ⟨q,y,g,m,n,o⟩
   ·exact .inl ⟨s,by rw[E];exact g,m,n,o,W,N,Q,by rw[K];exact V⟩
   ·exact .inr ⟨q,y,by rw[E];exact g,by rw[K];exact m,n,o⟩
 ·by_cases A:l=j
  ·subst A
   rw[A9s J] at v;cases v
  ·rw[A9d omz] at v
   exact h.ownS l B v b O
end
section
variable {c i j l:Nat}{y:Goroutine}
variable {P : Program}{Low : Nat}{n0 : Nat}{t₀ : Trace}{x : RC}{ow : Nat -> Nat -> Prop}{comps : List (SC ⊕ Nat)}{gs : Array Goroutine}{w : World}{t : Trace}{sl : Option (Nat × Nat)}
def Reach (P:Program)(Stop:Goroutine->World->Prop)(tape:Nat->Question->Nat)(gs:Array Goroutine)(w:World)(sl:Option (Nat × Nat))(t:Trace):Prop:=
 ∃N gs' b w' d a,runNT P N (crowd gs w sl) t=(.next (crowd gs' w' d),a)/\Frm P gs' a b/\w'.tape=tape/\Stop b w'
theorem Reach.step {Stop:Goroutine->World->Prop}{tape:Nat->Question->Nat}{b:Array Goroutine}{w1:World}{a:Option (Nat × Nat)}{ops:Trace}(g:stepT P (crowd gs w sl)=(.next (crowd b w1 a),ops))(h:Reach P Stop tape b w1 a (t++ops)):Reach P Stop tape gs w sl t:=by
 obtain⟨N,gs',n,w',o,d,e,hF,m,f⟩:=h;exact⟨N+1,gs',n,w',o,d,by simp only[runNT,g];exact e,hF,m,f⟩
theorem Aab (h:y.status=.running\/y.status=.finished):y.status≠.blocked:=by rcases h with h | h<;>rw[h]<;>simp
theorem PhI.offT (h:PhI P Low n0 t₀ x ow comps gs w t){vs:List Value}{F:Bool}(B:x.L[j]?=some (c,vs,F))(hl:l≠n0+j)(a:gs[l]?=some y):offersAt y c true=[]:=by
 have G:=(Array.getElem?_eq_some_iff.1 a).1;rcases Bbh l with rfl | C
 ·rcases h.zero with b | ⟨k,m,vs,z,A,_,_,_,⟨b,_⟩ | ⟨b,_⟩⟩
  ·rw[b] at a;cases a;exact offersAt_of_not_blocked (Aab (.inl h.run)) _ _
  ·rw[b] at a;cases a;exact offersAt_parked_recv' _ _ _ _ _
  ·rw[b] at a;cases a;exact offersAt_of_not_blocked (Aab (.inl rfl)) _ _
 ·rcases Ba3 l n0 with o | o
  ·obtain⟨q,y',_,d,g⟩:=h.old l C o
   rw[a] at d;cases d;exact offersAt_of_not_blocked (Aab g.status) _ _
  ·obtain⟨k,rfl⟩:∃k,l=n0+k:=⟨l - n0,omz⟩
   have D:k<x.L.length:=by have:=h.siz;omega
   obtain⟨⟨m,r,seen⟩,n⟩:∃e,x.L[k]?=some e:=⟨_,A9k D⟩
   rcases h.snd k m r seen n with⟨s,_,_,_,_,E,_,H,f | ⟨v,z,A,f,_⟩⟩ | ⟨q,y',_,d,g,_⟩
   ·rw[f] at a;cases a;exact offersAt_of_not_blocked (Aab (.inl E.inv.1)) _ _
   ·rw[f] at a;cases a
    rw[offersAt_parked_send,if_neg];rintro rfl;exact hl (by rw[h.dist k j _ _ _ _ _ n B])
   ·rw[d] at a;cases a;exact offersAt_of_not_blocked (Aab g.status) _ _
theorem PhI.offF (h:PhI P Low n0 t₀ x ow comps gs w t)(hl:l≠0)(a:gs[l]?=some y):offersAt y c false=[]:=by
 have B:=(Array.getElem?_eq_some_iff.1 a).1;rcases Ba3 l n0 with g | g
 ·obtain⟨q,y',_,b,f⟩:=h.old l omz g
  rw[a] at b;cases b;exact offersAt_of_not_blocked (Aab f.status) _ _
 ·obtain⟨k,rfl⟩:∃k,l=n0+k:=⟨l - n0,omz⟩
  have r:k<x.L.length:=by have:=h.siz;omega
  obtain⟨⟨n,m,seen⟩,o⟩:∃e,x.L[k]?=some e:=⟨_,A9k r⟩
  rcases h.snd k n m seen o with⟨s,_,_,_,_,A,_,D,d | ⟨v,z,C,d,_⟩⟩ | ⟨q,y',_,b,f,_⟩
  ·rw[d] at a;cases a;exact offersAt_of_not_blocked (Aab (.inl A.inv.1)) _ _
  ·rw[d] at a;cases a;exact offersAt_parked_send' _ _ _ _ _ _
  ·rw[b] at a;cases a;exact offersAt_of_not_blocked (Aab f.status) _ _
theorem Aee {b:Bool}(h:∀l y,l≠i->gs[l]?=some y->offersAt y c b=[]):partners (gs.setIfInBounds i ph) c b=[]:=by
 refine partners_nil λl y d=>?_
 rcases getElem?_stand gs i l y d with⟨_,rfl⟩ | ⟨a,e⟩
 ·exact offersAt_ph _ _
 ·exact h l y a e
theorem Aqs {b:Bool}{g:Goroutine}(e:j≠i)(o:gs[j]?=some g)(d:offersAt g c b=[0])(h:∀l y,l≠i->l≠j->gs[l]?=some y->offersAt y c b=[]):partners (gs.setIfInBounds i ph) c b=[(j,0)]:=by
 rw[partners_one (stand_get e o) λl y a m=>?_,d]
 ·rfl
 ·rcases getElem?_stand gs i l y m with⟨_,rfl⟩ | ⟨f,n⟩
  ·exact offersAt_ph _ _
  ·exact h l y f a n
theorem PhI.ends (h:PhI P Low n0 t₀ x ow comps gs w t)(I:∀e∈x.L,e.2.2=true):Frm P gs t x.g:=by
 have B:∀(j c:Nat) (o:List Value) (b:Bool),x.L[j]?=some (c,o,b)->b=true:=λj c o b H=>I _ (Baz H)
 have hS:∀j,j<x.L.length->∃q y,gs[n0+j]?=some y/\QuitsIn P q y/\Zg t (n0+j):=by
  intro j n;obtain⟨⟨C,E,seen⟩,D⟩:∃e,x.L[j]?=some e:=⟨_,A9k n⟩
  obtain rfl:=B _ _ _ _ D;rcases h.snd j C E true D with⟨s,_,_,_,e,_⟩ | ⟨q,y',_,d,m,_,_,_,G⟩
  ·cases e
  ·exact⟨q,y',d,m,G rfl⟩
 refine⟨?_,?_,h.tr.past λj n=>(hS j n).choose_spec.choose_spec.2.2⟩
 ·rcases h.zero with F | ⟨k,C,o,z,J,a,_⟩
  ·exact F
  ·have:=B _ _ _ _ a;cases this
 ·have A:∀i,0<i->i<gs.size->∃q,∀y,gs[i]?=some y->QuitsD P q (Deaf t i) y:=by
   intro i hi r;rcases Ba3 i n0 with v | v
   ·obtain⟨q,y',_,d,m⟩:=h.old i hi v
    exact⟨q,λy f=>by rw[f] at d;cases d;exact m⟩
   ·obtain⟨k,rfl⟩:∃k,i=n0+k:=⟨i - n0,omz⟩
    obtain⟨q,y',d,m,_⟩:=hS k (by have:=h.siz;omega);exact⟨q,λy f=>by rw[f] at d;cases d;rw[h.tr.hearS _ v];exact QuitsD.of_quitsIn m⟩
  classical
  refine⟨λi=>if hi:0<i/\i<gs.size then(A i hi.1 hi.2).choose else 0,λi y hi f=>?_,λj n=>h.tr.hearS j (by have:=h.siz;omega)⟩;have r:=(Array.getElem?_eq_some_iff.1 f).1;simp only[hi,r,and_self,dite_true];exact(A i hi r).choose_spec y f
end
section
variable {P : Program}{Low : Nat}{n0 : Nat}{t₀ : Trace}{Stop : Goroutine -> World -> Prop}
theorem Aso {g:Goroutine}{cs:Array CommCase}{sh:CommShape}(hr:g.status=.running)(w:World):stepG P true {parked g cs sh with status:=.running} w=stepG P true g w:=by
 rw[stepG_tries];congr 1;obtain⟨a,b,c,d⟩:=g;simp at hr;subst hr;rfl
theorem pushes {t:Trace}{fn d:FuncId}{pos e:String}{k l:Nat}{a b:MemAct}:t++((MemOp.ofEvents k fn pos #[]).push {g:=k,fn,pos,act:=a}).push {g:=l,fn:=d,pos:=e,act:=b}=t++#[{g:=k,fn,pos,act:=a},{g:=l,fn:=d,pos:=e,act:=b}]:=by
 rw[ofEvents_eq];simp
theorem N7 (k:Nat)(fn:FuncId)(pos:String):MemOp.ofEvents k fn pos #[]=#[]:=by rw[ofEvents_eq];simp
theorem phase (tape:Nat->Question->Nat){x:RC}(h:Rcv P Low Stop x):
  ∀ow comps gs w t sl,PhI P Low n0 t₀ x ow comps gs w t->w.tape=tape->Reach P Stop tape gs w sl t:=by
 refine h (λx=>∀ow comps gs w t sl,PhI P Low n0 t₀ x ow comps gs w t->w.tape=tape->Reach P Stop tape gs w sl t) ?_;intro x hx ow comps gs w t sl f an;have main:∀comps,Acc (RL (A70 P Low)) comps->∀(n:Nat) (gs:Array Goroutine) (ow:Nat->Nat->Prop) (w:World) (t:Trace) (sl:Option (Nat × Nat)),cnt gs.toList=n->PhI P Low n0 t₀ x ow comps gs w t->w.tape=tape->Reach P Stop tape gs w sl t:=by
  intro comps aU;induction aU with
  | intro comps _ zD=>
  intro n;induction n using Nat.strongRecOn with
  | ind n zi=>
  intro gs ow w t sl aM f an;by_cases az:(∀e∈x.L,e.2.2=true)/\∀aL,Keep Low x.O x.w aL->Stop x.g aL
  ·exact⟨0,gs,x.g,w,sl,t,rfl,f.ends az.1,an,az.2 w f.keep⟩
  have hn:=f.pos
  obtain⟨i,y,d,ab,hi,R,V⟩:=crowd_pick (P:=P) (w:=w) (sl:=sl) (λg B=>by
   obtain⟨i,hi⟩:=Array.mem_iff_getElem?.1 B
   exact(f.qt i g hi).awake) f.runs
  replace f:=f.at d;have T:(w.at d).tape=tape:=an;generalize w.at d=w1 at f V T;clear an;have au:=(Array.getElem?_eq_some_iff.1 hi).1;have ba:∀(l:Nat) (g:Goroutine),(gs.setIfInBounds l g).size=gs.size:=λl g=>by simp
  have closed:∀(j c:Nat) (E:List Value) (z:Value) (q:Nat),i=0->x.L[j]?=some (c,E,false)->stepG P true y w1=.comm x.g #[rcase c z] true (.recv true) w1 #[]->comps[n0+j]?=some (.inr q)->
    ((∀v W,E=v::W->∀ow comps gs w t sl,PhI P Low n0 t₀ ⟨x.O,x.L.set j (c,W,false),Conc.served x.g (recvd true v true),w1⟩ ow comps gs w t->w.tape=tape->Reach P Stop tape gs w sl t)/\
     (E=[]->∀ow comps gs w t sl,PhI P Low n0 t₀ ⟨x.O,x.L.set j (c,[],true),Conc.served x.g (recvd true z false),w1⟩ ow comps gs w t->w.tape=tape->Reach P Stop tape gs w sl t))->Reach P Stop tape gs w sl t:=by
   intro j c E z q hi0 m e1 hq J;subst hi0;have aj:E=[]/\Ap2 c w1/\∀y',gs[n0+j]?=some y'->y'.status≠.blocked:=by
    rcases f.snd j c E false m with⟨s',r,_⟩ | ⟨q,y,r,C,S,h4,h5,_⟩
    ·rw[hq] at r;cases r
    ·exact⟨h4,h5,λy' hy'=>by rw[hy'] at C;cases C;exact Aab S.status⟩
   obtain⟨aj,⟨a,b,A⟩,aO⟩:=aj;have Q:partners (gs.setIfInBounds 0 ph) c true=[]:=Aee λl y' hl hy'=>by
    by_cases U:l=n0+j
    ·subst U;exact offersAt_of_not_blocked (aO y' hy') _ _
    ·exact f.offT m U hy'
   have o:=crowd_recv_closed (P:=P) (sl:=ab) (i:=0) hi (show stepG P (0==0) y w1=_ from e1) A Q;rw[finishComm_recv,N7,Array.empty_append] at o;refine Reach.step (V.trans o) (J.2 aj _ _ _ _ _ _ (f.seen m hq rfl (ba _ _) (by simp[au]) (λl hl=>Bi hl) _ _) T)
  rcases Bbh i with rfl | aJ
  ·rcases f.zero with G | ⟨j,c,E,z,H,m,K,M,⟨Q,_⟩ | ⟨Q,a8⟩⟩
   ·obtain rfl:y=x.g:=by rw[G] at hi;exact(A98 hi).symm
    rcases hx.2 with a6 | ag | ⟨c,A,ak⟩ | ⟨j,c,E,z,m,ae⟩
    ·exact absurd a6 az
    ·obtain⟨F,w',es,e1,hr,hS,J⟩:=ag w1 f.keep
     have aa:=f.own0' G hr hS x.g.frame.fn x.g.frame.place;have o:=runT_crowd_go (P:=P) (sl:=ab) (i:=0) G (show stepG P (0==0) x.g w1=_ from e1);rw[Xz λl y' hl hy'=>(aa.qt l y' yEf).woken] at o;exact Reach.step (V.trans o) (J _ _ _ _ _ _ aa (hS.tape.trans T))
    ·obtain⟨F,child,E,e1,hr,ae,N,hS,J⟩:=ak w1 f.keep
     have o:=runT_crowd_spawn (P:=P) (sl:=ab) (i:=0) G (show stepG P (0==0) x.g w1=_ from e1);refine Reach.step (V.trans o) ?_;rw[pushes];exact J _ _ _ _ _ _ (f.spawn G A hr N hS _ _ _ _) T
    ·obtain⟨e1,J⟩:=ae w1 f.keep
     have a7:=(f.lt m).2.1;rcases f.snd j c E false m with⟨s,Z,s2,s3,_,dD,hk,N,B | ⟨v,X,H,B,K,ar,M⟩⟩ | ⟨q,y,r,C,S,h4,h5,_⟩
     ·
      obtain⟨a,b,A⟩:=N;have Q:partners (gs.setIfInBounds 0 ph) c true=[]:=Aee λl y' hl hy'=>by
       by_cases U:l=n0+j
       ·subst U;rw[B] at hy';cases hy';exact offersAt_of_not_blocked (Aab (.inl dD.inv.1)) _ _
       ·exact f.offT m U hy'
      have o:=crowd_waits (P:=P) (sl:=ab) (i:=0) G (show stepG P (0==0) x.g w1=_ from e1) (λcc ah=>by
       have:cc=rcase c z:=by simpa using ah
       subst this
       exact ways_recv_none A Q)
      refine Reach.step (V.trans o) ?_;rw[N7,Array.append_empty];refine zi _ ?_ _ _ _ _ _ rfl (f.park0 m Z B e1) T;rw[<-aM,Array.toList_setIfInBounds];exact Az3 (x:=x.g) (by simpa using G) (Aab (.inl f.run)) rfl
     ·
      obtain⟨a,b,A⟩:=N;have aZ:∃W,s.vs=v::W/\(∃z,stepG P false s.g w1=.comm s.g #[scase s.c v z] true .send w1 #[])/\Snd P Low ⟨s.c,s.O,W,Conc.served s.g undef,w1⟩:=by
       subst s2;rcases dD.inv.2 with aC | ⟨v',W,e,aw⟩ | ⟨_,_,aB⟩
       ·obtain⟨F,w',es,I,_⟩:=aC H K ar
        rw[M] at I;cases I
       ·obtain⟨⟨z2,I⟩,_⟩:=aw H K ar
        rw[M] at I;have:v'=v:=by
         have:=congrArg (λs=>match s with | GStep.comm _ cs _ _ _ _=>cs.toList.map CommCase.send | _=>[]) I
         simp[scase] at this;exact this.symm
        subst this;exact⟨W,e,(aw w1 hk ⟨a,b,A⟩).1,(aw w1 hk ⟨a,b,A⟩).2⟩
       ·obtain⟨a',b',ap⟩:=ar
        obtain⟨F,n',I,_⟩:=aB H a' b' K ap;rw[M] at I;cases I
      obtain⟨W,aj,⟨z2,I⟩,aT⟩:=aZ;have lF:=s3.trans aj;have aF:n0+j≠0:=omz
      have Q:=Aqs aF B (by rw[offersAt_parked_send,if_pos rfl]) λl y' hl U hy'=>f.offT m U hy'
      have o:=crowd_recv_meets (P:=P) (sl:=ab) (i:=0) G (show stepG P (0==0) x.g w1=_ from e1) A aF B Q;rw[finishComm_recv,finishComm_send,N7,Array.empty_append] at o;refine Reach.step (V.trans o) (J.1 v W lF _ _ _ _ _ _ (f.meet (lF ▸ m) Z aT rfl spz ?_ ?_ ?_ ?_) T)
      ·simp[au]
      ·rw[Bi omz];exact A9v a7
      ·intro l r C;rw[Bi r,Bi C]
      ·intro op al
       simp at al;rcases al with rfl | rfl | rfl | rfl<;>simp[MemAct.touch?]
     ·exact closed j c E z q rfl m e1 r J
   ·rw[Q] at hi
    have:=A98 hi
    rw[<-this] at R;cases R
   ·have aY:y={parked x.g #[rcase c z] (.recv true) with status:=.running}:=by rw[Q] at hi;exact(A98 hi).symm
    have aR:stepG P true y w1=stepG P true x.g w1:=by rw[aY];exact Aso f.run w1
    obtain⟨q,hq⟩:∃q,comps[n0+j]?=some (.inr q):=by
     rcases f.snd j c E false m with⟨s,Z,s2,s3,_,dD,hk,⟨a,b,N⟩,_⟩ | ⟨q,y,r,_⟩
     ·obtain⟨a',b',ap⟩:=a8
      rw[N] at ap;cases ap
     ·exact⟨q,r⟩
    rcases hx.2 with⟨aD,_⟩ | ag | ⟨c,A,ak⟩ | ⟨j',Y,W,X,ai,ae⟩
    ·have:=aD _ (Baz m);cases this
    ·obtain⟨F,w',es,e1,_⟩:=ag H K
     rw[M] at e1;cases e1
    ·obtain⟨F,child,E,e1,_⟩:=ak H K
     rw[M] at e1;cases e1
    ·have I:=(ae H K).1
     rw[M] at I;have:c=Y/\z=X:=by
      have:=congrArg (λs=>match s with | GStep.comm _ cs _ _ _ _=>cs.toList | _=>[]) I
      simp[rcase] at this;exact this
     obtain⟨rfl,rfl⟩:=this;obtain rfl:=f.dist j j' c _ _ _ _ m ai;rw[m] at ai;cases ai;obtain⟨e1,J⟩:=ae w1 f.keep;exact closed j c E z q rfl m (aR.trans e1) hq J
  ·have hi0:(i==0)=false:=by simp;omega
   rcases Ba3 i n0 with aE | aE
   ·
    obtain⟨q,y',r,C,S⟩:=f.old i aJ aE;rw[hi] at C;cases C;cases q with
    | zero=>rw[S.1] at R;cases R
    | succ k=>
     rcases S with⟨hf,_⟩ | ⟨_,y',es,hm,ax,ay⟩
     ·rw[hf] at R;cases R
     have aa:=f.slipOld aJ aE hm ay y.frame.fn y.frame.place;have o:=runT_crowd_go (P:=P) (sl:=ab) (i:=i) hi (by rw[hi0];exact ax w1);rw[Xz λl y' hl hy'=>(aa.qt l y' yEf).woken] at o;exact Reach.step (V.trans o) (zD _ ⟨i, .inr (k+1), .inr k,r,Baa k,rfl⟩ _ _ _ _ _ _ rfl aa T)
   ·obtain⟨j,rfl⟩:∃j,i=n0+j:=⟨i - n0,omz⟩
    have hj:j<x.L.length:=by have:=f.siz;omega
    obtain⟨⟨c,av,seen⟩,m⟩:∃e,x.L[j]?=some e:=⟨_,A9k hj⟩
    rcases f.snd j c av seen m with⟨s,Z,s2,s3,s4,dD,hk,N,B | ⟨v,X,H,B,K,ar,M⟩⟩ | ⟨q,y',r,C,S,h4,h5,_⟩
    ·obtain rfl:y=s.g:=by rw[B] at hi;exact(A98 hi).symm
     subst s2 s4;rcases dD.inv.2 with ag | ⟨v,W,e,hv⟩ | ⟨aX,a9,aB⟩
     ·obtain⟨F,w',es,e1,hr,hS,J⟩:=ag w1 hk N
      have aa:=f.ownJ hj Z B hr hS J s.g.frame.fn s.g.frame.place;have o:=runT_crowd_go (P:=P) (sl:=ab) (i:=n0+j) B yEj;rw[Xz λl y' hl hy'=>(aa.qt l y' yEf).woken] at o;refine Reach.step (V.trans o) (zD _ ⟨n0+j,_,_,Z,?_,rfl⟩ _ _ _ _ _ _ rfl aa (hS.tape.trans T));refine⟨w1,hk,N, .inl ⟨F,w',es,e1,N.chg hS.chg λhb=>?_,rfl⟩⟩;have:=f.ows.apart _ _ _ (f.chan j _ _ _ m).1 (f.ownS j s Z _ hb)
      omega
     ·obtain⟨⟨z,e1⟩,J⟩:=hv w1 hk N
      obtain⟨a,b,A⟩:=id N;by_cases aI:∃X,gs[0]?=some (parked x.g #[rcase s.c X] (.recv true))
      ·obtain⟨X,ac⟩:=aI
       have Q:partners (gs.setIfInBounds (n0+j) ph) s.c false=[(0,0)]:=Aqs omz ac (by rw[offersAt_parked_recv,if_pos rfl]) λl y' hl ao hy'=>f.offF ao hy'
       have o:=crowd_send_meets (P:=P) (sl:=ab) (i:=n0+j) (j:=0) B yEj A omz ac Q;rw[finishComm_recv,finishComm_send,N7,Array.empty_append] at o;rcases f.zero with G | ⟨k,Y,aK,z2,H,af,K,M,⟨D,_⟩ | ⟨D,_⟩⟩
       ·rw[G] at ac
        have:=congrArg Goroutine.status (A98 ac)
        rw[f.run] at this;cases this
       ·rw[D] at ac
        have aQ:Y=s.c/\z2=X:=by
         have:=congrArg Goroutine.offers (A98 ac)
         simp[parked,rcase] at this;exact this
        obtain⟨rfl,rfl⟩:=aQ;obtain rfl:=f.dist k j s.c _ _ _ _ af m;rw[m] at af;cases af;rcases hx.2 with⟨aD,_⟩ | ag | ⟨c,A,ak⟩ | ⟨j',Y,bc,z3,ai,ae⟩
        ·have:=aD _ (Baz m);cases this
        ·obtain⟨F,w',es,e1,_⟩:=ag H K
         rw[M] at e1;cases e1
        ·obtain⟨F,child,E,e1,_⟩:=ak H K
         rw[M] at e1;cases e1
        ·have I:=(ae H K).1
         rw[M] at I;have:s.c=Y:=by
          have:=congrArg (λs=>match s with | GStep.comm _ cs _ _ _ _=>cs.toList | _=>[]) I
          simp[rcase] at this;exact this.1
         subst this;obtain rfl:=f.dist k j' s.c _ _ _ _ m ai;rw[m] at ai;cases ai;have lF:=s3.trans e;refine Reach.step (V.trans o) ((ae w1 f.keep).2.1 v W lF _ _ _ _ _ _ (f.meet (lF ▸ m) Z J rfl spz ?_ ?_ ?_ ?_) T)
         ·rw[Bi omz];exact A9v omz
         ·exact A9v (by simpa using au)
         ·intro l r C;rw[Bi C,Bi r]
         ·intro op al
          simp at al;rcases al with rfl | rfl | rfl | rfl<;>simp[MemAct.touch?]
       ·rw[D] at ac
        have:=congrArg Goroutine.status (A98 ac)
        simp[parked] at this
      ·have aG:∀X,gs[0]?≠some (parked x.g #[rcase s.c X] (.recv true)):=λX hz=>aI ⟨X,hz⟩
       have Q:partners (gs.setIfInBounds (n0+j) ph) s.c false=[]:=Aee λl y' hl hy'=>by
        rcases Bbh l with rfl | ao
        ·rcases f.zero with G | ⟨k,Y,aK,z2,H,af,K,M,⟨D,_⟩ | ⟨D,_⟩⟩
         ·rw[G] at hy';cases hy';exact offersAt_of_not_blocked (Aab (.inl f.run)) _ _
         ·rw[D] at hy';cases hy'
          rw[offersAt_parked_recv,if_neg];rintro rfl;exact aG _ D
         ·rw[D] at hy';cases hy';exact offersAt_of_not_blocked (Aab (.inl rfl)) _ _
        ·exact f.offF omz hy'
       have o:=crowd_waits (P:=P) (sl:=ab) (i:=n0+j) B yEj (λcc ah=>by
        have:cc=scase s.c v z:=by simpa using ah
        subst this
        exact ways_send_none A spz Q)
       refine Reach.step (V.trans o) ?_;rw[N7,Array.append_empty];refine zi _ ?_ _ _ _ _ _ rfl (f.parkJ m Z B aG e1) T;rw[<-aM,Array.toList_setIfInBounds];exact Az3 (x:=s.g) (by simpa using B) (Aab (.inl dD.inv.1)) rfl
     ·obtain⟨a,b,A⟩:=id N
      obtain⟨F,nq,e1,hr,hq⟩:=aB w1 a b hk A;have iy:=s3.trans aX;subst iy;have o:=runT_crowd_go (P:=P) (sl:=ab) (i:=n0+j) B yEj;have hC:Chg (λb=>b=s.c) w1 (w1.shut s.c a b false):=Chg.put w1 s.c _;have a5:∀l y',l≠0->l≠n0+j->gs[l]?=some y'->woken P s.g F (w1.shut s.c a b false) y'=y':=by
       intro l y' ao U hy';have bb:=(Array.getElem?_eq_some_iff.1 hy').1;rcases Ba3 l n0 with aH | aH
       ·obtain⟨q,y2,_,C,S⟩:=f.old l omz aH
        rw[hy'] at C;cases C;exact woken_quitsD S
       ·obtain⟨k,rfl⟩:∃k,l=n0+k:=⟨l - n0,omz⟩
        have aP:k<x.L.length:=by have:=f.siz;omega
        obtain⟨⟨Y,av,seen⟩,af⟩:∃e,x.L[k]?=some e:=⟨_,A9k aP⟩
        rcases f.snd k Y av seen af with⟨s',_,_,_,_,vN,_,aC,r | ⟨v,z,H,r,_⟩⟩ | ⟨q,y2,_,C,S,_⟩
        ·rw[r] at hy';cases hy';exact woken_run vN.inv.1
        ·rw[r] at hy';cases hy'
         obtain⟨a2,b2,aA⟩:=aC.chg hC (λe=>U (by rw[f.dist k j s.c _ _ _ _ (e ▸ af) m]));exact woken_send_open _ _ aA
        ·rw[C] at hy';cases hy'
         exact woken_quitsD (QuitsD.of_quitsIn S)
      have aS:((gs.map (woken P s.g F (w1.shut s.c a b false))).setIfInBounds (n0+j) F).size=gs.size:=spz
      refine Reach.step (V.trans o) (zD _ ⟨n0+j, .inl s, .inr nq,Z,trivial,rfl⟩ _ _ _ _ _ _ rfl (f.close m Z A hq aS ?_ ?_ ?_ _ _) T)
      ·exact A9v (by simpa using au)
      ·intro l ao U
       rw[Bi U,Bbr];cases aN:gs[l]? with
       | none=>rfl
       | some y'=>simp[a5 l y' ao U aN]
      ·rw[Bi omz,Bbr]
       rcases f.zero with G | ⟨k,Y,aK,z2,H,af,K,M,⟨D,_⟩ | ⟨D,_⟩⟩
       ·refine .inl ⟨by rw[G];simp[woken_run f.run],λz hz=>?_⟩
        rw[G] at hz;have:=congrArg Goroutine.status (A98 hz)
        rw[f.run] at this;cases this
       ·by_cases ah:Y=s.c
        ·subst ah
         refine .inr ⟨z2,D,?_⟩;rw[D];simp only[Bbt,A96];have aV:(mayWake P s.g && F.status !=.blocked && F.status !=.waiting)=true:=by rw[a9,hr];rfl
         unfold Conc.woken;rw[if_pos aV];exact again_recv_closed (heap_put A)
        ·refine .inl ⟨?_,λz hz=>?_⟩
         ·rw[D]
          simp only[Bbt,A96];have aW:Yd Y w1:=by
           rcases f.qt 0 _ D with h | ⟨g2,c2,z3,sh,e,a3⟩ | ⟨g2,c2,v2,z3,sh,e,_⟩
           ·rcases h with h | h<;>cases h
           ·have:=congrArg Goroutine.offers e
            simp[parked,rcase] at this;rw[this.1.1];exact a3
           ·have:=congrArg Goroutine.offers e
            simp[parked,rcase,scase] at this
          obtain⟨a2,b2,aA⟩:=aW.chg hC ah;exact woken_recv_open _ _ aA
         ·rw[D] at hz
          have:=congrArg Goroutine.offers (A98 hz)
          simp[parked,rcase] at this;exact ah this.1
       ·refine .inl ⟨by rw[D];simp only[Bbt,A96];exact woken_run rfl,λz hz=>?_⟩
        rw[D] at hz;have:=congrArg Goroutine.status (A98 hz)
        simp[parked] at this
    ·rw[B] at hi
     have:=A98 hi
     rw[<-this] at R;cases R
    ·rw[hi] at C;cases C
     cases q with
     | zero=>rw[show y.status=.finished from S] at R;cases R
     | succ k=>
      rcases S with hf | ⟨_,y',ax,ay⟩
      ·rw[hf] at R;cases R
      have aa:=f.slipJ m r ay;have o:=runT_crowd_go (P:=P) (sl:=ab) (i:=n0+j) hi (by rw[hi0];exact ax w1);rw[Xz λl y' hl hy'=>(aa.qt l y' yEf).woken] at o;refine Reach.step (V.trans o) ?_;rw[N7,Array.append_empty];exact zD _ ⟨n0+j, .inr (k+1), .inr k,r,Baa k,rfl⟩ _ _ _ _ _ _ rfl aa T
 exact main comps f.acc _ gs ow w t sl rfl f an
end
end Go.Co
