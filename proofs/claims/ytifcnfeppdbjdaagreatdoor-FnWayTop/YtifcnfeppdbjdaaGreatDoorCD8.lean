import Derived.Test.YtifcnfeppdbjdaaGreatDoorCD5
namespace Go.Co
open Go.Conc
section
variable {c j k:Nat}{y':Goroutine}{z:Value}
variable {P : Program}{Low : Nat}{n0 : Nat}{t₀ : Trace}{x : RC}{ow : Nat -> Nat -> Prop}{comps jI : List (SC ⊕ Nat)}{gs gs' : Array Goroutine}{w w' : World}{t u : Trace}
theorem PhI.park0 (h:PhI P Low n0 t₀ x ow comps gs w t){vs:List Value}{s:SC}(m:x.L[j]?=some (c,vs,false))(B:comps[n0+j]?=some (.inl s))(hg:gs[n0+j]?=some s.g)
  (G:stepG P true x.g w=.comm x.g #[rcase c z] true (.recv true) w #[]):PhI P Low n0 t₀ x ow comps (gs.setIfInBounds 0 (parked x.g #[rcase c z] (.recv true))) w t:=by
 have H:=h.pos;have A:0<gs.size:=by have:=(h.lt m).2.1;omega
 refine⟨h.pos,by simpa using h.len,h.c0,by simpa using h.siz,h.run,h.keep, .inr ⟨j,c,vs,z,w,m,h.keep,G, .inl ⟨by simp[A],s,B,by rw[Bg AQ];exact hg⟩⟩,λi hi D=>?_,λk v r seen n=>?_,h.own0,h.ownS,h.chan,h.dist,h.ows,h.low,h.tr⟩
 ·obtain⟨q,y,b,d,a⟩:=h.old i hi D
  exact⟨q,y,b,by rw[Bg AQ];exact d,a⟩
 ·have e:(gs.setIfInBounds 0 (parked x.g #[rcase c z] (.recv true)))[n0+k]?=gs[n0+k]?:=Bg AQ
  rcases h.snd k v r seen n with⟨s,b,d,a,f,F,o,E,C⟩ | ⟨q,y,b,d,a,f⟩
  ·exact .inl ⟨s,b,d,a,f,F,o,E,by rw[e];exact C⟩
  ·exact .inr ⟨q,y,b,by rw[e];exact d,a,f⟩
theorem PhI.parkJ (h:PhI P Low n0 t₀ x ow comps gs w t){G:List Value}{v:Value}{s:SC}(D:x.L[j]?=some (c,G,false))(H:comps[n0+j]?=some (.inl s))(hg:gs[n0+j]?=some s.g)
  (R:∀A,gs[0]?≠some (parked x.g #[rcase c A] (.recv true)))
  (U:stepG P false s.g w=.comm s.g #[scase c v z] true .send w #[]):PhI P Low n0 t₀ x ow comps (gs.setIfInBounds (n0+j) (parked s.g #[scase c v z] .send)) w t:=by
 have V:=h.pos;obtain⟨W,T,X⟩:=h.lt D;refine⟨h.pos,by simpa using h.len,h.c0,by simpa using h.siz,h.run,h.keep,?_,λi hi S=>?_,λk C G seen F=>?_,h.own0,h.ownS,h.chan,h.dist,h.ows,h.low,h.tr⟩
 ·rcases h.zero with h0 | ⟨k,C,K,A,O,a,b,J,⟨d,M,e,f⟩ | ⟨d,e⟩⟩
  ·exact .inl yFf
  ·have Q:k≠j:=by
    rintro rfl;rw[D] at a;cases a;exact R A d
   exact .inr ⟨k,C,K,A,O,a,b,J, .inl ⟨by rw[Bg AQ];exact d,M,e,by rw[Bg AQ];exact f⟩⟩
  ·exact .inr ⟨k,C,K,A,O,a,b,J, .inr ⟨by rw[Bg AQ];exact d,e⟩⟩
 ·obtain⟨q,y,m,o,n⟩:=h.old i hi S
  exact⟨q,y,m,by rw[Bg AQ];exact o,n⟩
 ·by_cases Q:k=j
  ·subst Q
   rw[D] at F;cases F;rcases h.snd k c _ _ D with⟨M,m,o,n,r,I,B,E,N⟩ | ⟨q,y,m,o,n,r⟩
   ·rw[H] at m;cases m
    exact .inl ⟨s,H,o,n,r,I,B,E, .inr ⟨v,z,w,E9 T,B,E,U⟩⟩
   ·rw[H] at m;cases m
  ·have e:(gs.setIfInBounds (n0+j) (parked s.g #[scase c v z] .send))[n0+k]?=gs[n0+k]?:=Bg AQ
   rcases h.snd k C G seen F with⟨s,m,o,n,r,I,B,E,N⟩ | ⟨q,y,m,o,n,r⟩
   ·exact .inl ⟨s,m,o,n,r,I,B,E,by rw[e];exact N⟩
   ·exact .inr ⟨q,y,m,by rw[e];exact o,n,r⟩
theorem PhI.close (h:PhI P Low n0 t₀ x ow comps gs w t){s:SC}{g':Goroutine}{n v C:Nat}(o:x.L[j]?=some (c,[],false))(hs:comps[n0+j]?=some (.inl s))(Y:w.heap[c]?=some (.chan 0 #[] false v C false))(Z:QuitsIn P n g')
  (U:gs'.size=gs.size) (hJ:gs'[n0+j]?=some g') (M:∀l,l≠0->l≠n0+j->gs'[l]?=gs[l]?)
  (m:(gs'[0]?=gs[0]?/\∀z,gs[0]?≠some (parked x.g #[rcase c z] (.recv true)))\/∃z,gs[0]?=some (parked x.g #[rcase c z] (.recv true))/\gs'[0]?=some {parked x.g #[rcase c z] (.recv true) with status:=.running}) (fn:FuncId) (pos:String):
  PhI P Low n0 t₀ x ow (comps.set (n0+j) (.inr n)) gs' (w.shut c v C false) (t++MemOp.ofEvents (n0+j) fn pos #[⟨.obj c,false,true⟩,⟨.obj c,true,true⟩]):=by
 have hn:=h.pos;obtain⟨hj,ah,X⟩:=h.lt o;have J:EM (λb=>b=c) w (w.shut c v C false):=EM.put w c _;have T:JF c (w.shut c v C false):=⟨v,C,heap_put Y⟩
 obtain⟨Q,hO⟩:=h.part (S:=λb=>b=c) (k:=0) (by rintro b rfl;exact(h.chan j _ _ _ o).1);have ab:∀b,x.O b->b<w.heap.size/\¬b=c:=λb G=>⟨h.ows.up _ _ (h.own0 b G),λe=>(h.chan j _ _ _ o).2 (e ▸ G)⟩
 have W:(w.shut c v C false).heap.size=w.heap.size:=by simp[World.shut]
 obtain⟨ae,af⟩:=h.tr.close (k:=n0+j) (c:=c) h.ows ⟨j,hj,rfl⟩ fn pos;refine⟨h.pos,by rw[U];simpa using h.len,by rw[CY AQ];exact h.c0,by rw[U];exact h.siz,h.run,h.keep.chg J ab Q,?_,λi hi ac=>?_,λk A aa seen F=>?_,h.own0,λk B D b G=>?_,h.chan,h.dist,by rw[W];exact h.ows,by rw[W];exact h.low,ae⟩
 ·rcases h.zero with V | ⟨k,A,R,E,K,a,b,H,⟨d,B,e,f⟩ | ⟨d,e⟩⟩
  ·rcases m with⟨m,_⟩ | ⟨z,m,_⟩
   ·exact .inl (by rw[m];exact V)
   ·rw[V] at m
    have:=congrArg Goroutine.status (DG m)
    rw[h.run] at this;cases this
  ·by_cases r:k=j
   ·subst r
    rw[o] at a;cases a;rcases m with⟨_,m⟩ | ⟨z,m,I⟩
    ·exact absurd d (m E)
    ·rw[d] at m
     have hz:E=z:=by
      have:=congrArg Goroutine.offers (DG m)
      simp[parked,rcase] at this;exact this
     subst hz;exact .inr ⟨k,c,[],E,K,o,b,H, .inr ⟨I,T⟩⟩
   ·have N:A≠c:=λe=>r (h.dist k j c _ _ _ _ (e ▸ a) o)
    rcases m with⟨m,_⟩ | ⟨z,m,I⟩
    ·exact .inr ⟨k,A,R,E,K,a,b,H, .inl ⟨by rw[m];exact d,B,by rw[CY AQ];exact e,by rw[M _ AQ AQ];exact f⟩⟩
    ·rw[d] at m
     have:=congrArg Goroutine.offers (DG m)
     simp[parked,rcase] at this;exact absurd this.1 N
  ·rcases m with⟨m,_⟩ | ⟨z,m,I⟩
   ·have r:k≠j:=by
     rintro rfl;rw[o] at a;cases a;obtain⟨a1,a2,e⟩:=e;rw[Y] at e;cases e
    have N:¬A=c:=λe=>r (h.dist k j c _ _ _ _ (e ▸ a) o)
    exact .inr ⟨k,A,R,E,K,a,b,H, .inr ⟨by rw[m];exact d,e.chg J N⟩⟩
   ·rw[d] at m
    have:=congrArg Goroutine.status (DG m)
    simp[parked] at this
 ·obtain⟨q,y,h1,h2,h3⟩:=h.old i hi ac
  exact⟨q,y,by rw[CY AQ];exact h1,by rw[M _ AQ AQ];exact h2,IY h3 (L8 AQ)⟩
 ·by_cases r:k=j
  ·subst r
   rw[o] at F;cases F;exact .inr ⟨n,g',Db X,hJ,Z,rfl,T,af,λe=>by cases e⟩
  ·exact(h.snd k A aa seen F).turn (CY AQ) (M _ AQ AQ) J (λB D=>hO (n0+k) B.O AQ (h.ownS k B D)) Q (λe=>r (h.dist k j c _ _ _ _ (e ▸ F) o)) (λop ag e=>absurd e (L8 AQ op ag))
 ·by_cases r:k=j
  ·subst r
   rw[Db X] at D;cases D
  ·rw[CY AQ] at D
   exact h.ownS k B D b G
theorem PhI.slipOld (h:PhI P Low n0 t₀ x ow comps gs w t){i:Nat}{es:Array Event}(hi:0<i)(W:i<n0)(F:∀e∈es,Event.mute e=true)(G:QuitsD P k (deafBehind (Deaf t i) es) y')(fn:FuncId)(pos:String):
  PhI P Low n0 t₀ x ow (comps.set i (.inr k)) (gs.setIfInBounds i y') w (t++MemOp.ofEvents i fn pos es):=by
 have X:=h.siz;have V:=h.len;have Q:Tr Low n0 x.L.length t₀ (t++MemOp.ofEvents i fn pos es) ow:=h.tr.silent λop s=>by
  obtain⟨e,T,rfl⟩:=Go.Conc.mem_ofEvents s;exact⟨touch_mute (F e T),λm=>by rcases m with m | m<;>(simp at m;omega)⟩
 obtain⟨D,M⟩:=h.part (S:=λ_=>False) (k:=0) (λb r=>r.elim);refine⟨h.pos,by simpa using h.len,by rw[CY AQ];exact h.c0,by simpa using h.siz,h.run,h.keep,?_,λl N I=>?_,λl n H seen E=>?_,h.own0,λl g o b r=>?_,h.chan,h.dist,h.ows,h.low,Q⟩
 ·rcases h.zero with h0 | ⟨k,n,A,B,C,a,b,v,⟨d,g,e,f⟩ | ⟨d,e⟩⟩
  ·exact .inl yFf
  ·exact .inr ⟨k,n,A,B,C,a,b,v, .inl ⟨by rw[Bg AQ];exact d,g,by rw[CY AQ];exact e,by rw[Bg AQ];exact f⟩⟩
  ·exact .inr ⟨k,n,A,B,C,a,b,v, .inr ⟨by rw[Bg AQ];exact d,e⟩⟩
 ·by_cases K:i=l
  ·subst K
   exact⟨k,y',Db AQ,E9 AQ,by rw[Deaf_own];exact G⟩
  ·obtain⟨q,y,R,U,J⟩:=h.old l N I
   exact⟨q,y,by rw[CY AQ];exact R,by rw[Bg AQ];exact U,IY J (L8 AQ)⟩
 ·exact(h.snd l n H seen E).turn (CY AQ) (Bg AQ) (EM.same w) (λg o=>M (n0+l) g.O (by have:=h.pos;omega) (h.ownS l g o)) D id (λop s e=>absurd e (L8 AQ op s))
 ·rw[CY AQ] at o
  exact h.ownS l g o b r
theorem PhI.slipJ (h:PhI P Low n0 t₀ x ow comps gs w t){q:Nat}{e:Nat × List Value × Bool}(R:x.L[j]?=some e)(H:comps[n0+j]?=some (.inr q))(N:QuitsIn P k y'):
  PhI P Low n0 t₀ x ow (comps.set (n0+j) (.inr k)) (gs.setIfInBounds (n0+j) y') w t:=by
 have Y:=h.pos;obtain⟨Z,T,J⟩:=h.lt R;refine⟨h.pos,by simpa using h.len,by rw[CY AQ];exact h.c0,by simpa using h.siz,h.run,h.keep,?_,λl U Q=>?_,λl r G seen D=>?_,h.own0,λl B v b W=>?_,h.chan,h.dist,h.ows,h.low,h.tr⟩
 ·rcases h.zero with h0 | ⟨k,r,E,I,K,a,b,C,⟨d,B,e,f⟩ | ⟨d,e⟩⟩
  ·exact .inl yFf
  ·have aa:k≠j:=by
    rintro rfl;rw[H] at e;cases e
   exact .inr ⟨k,r,E,I,K,a,b,C, .inl ⟨by rw[Bg AQ];exact d,B,by rw[CY AQ];exact e,by rw[Bg AQ];exact f⟩⟩
  ·exact .inr ⟨k,r,E,I,K,a,b,C, .inr ⟨by rw[Bg AQ];exact d,e⟩⟩
 ·obtain⟨q,y,g,n,m⟩:=h.old l U Q
  exact⟨q,y,by rw[CY AQ];exact g,by rw[Bg AQ];exact n,m⟩
 ·by_cases A:l=j
  ·subst A
   rcases h.snd l r G seen D with⟨s,g,_⟩ | ⟨q,y,g,n,m,o⟩
   ·rw[H] at g;cases g
   ·exact .inr ⟨k,y',Db J,E9 T,N,o⟩
  ·have F:(comps.set (n0+j) (.inr k))[n0+l]?=comps[n0+l]?:=CY AQ
   have M:(gs.setIfInBounds (n0+j) y')[n0+l]?=gs[n0+l]?:=Bg AQ;rcases h.snd l r G seen D with⟨s,g,n,m,o,X,O,V,S⟩ | ⟨q,y,g,n,m,o⟩
   ·exact .inl ⟨s,by rw[F];exact g,n,m,o,X,O,V,by rw[M];exact S⟩
   ·exact .inr ⟨q,y,by rw[F];exact g,by rw[M];exact n,m,o⟩
 ·by_cases A:l=j
  ·subst A
   rw[Db J] at v;cases v
  ·rw[CY AQ] at v
   exact h.ownS l B v b W
end
section
variable {c i j l:Nat}{y:Goroutine}
variable {P : Program}{Low : Nat}{n0 : Nat}{t₀ : Trace}{x : RC}{ow : Nat -> Nat -> Prop}{comps : List (SC ⊕ Nat)}{gs : Array Goroutine}{w : World}{t : Trace}{sl : Option (Nat × Nat)}
def Reach (P:Program)(Stop:Goroutine->World->Prop)(tape:Nat->Question->Nat)(gs:Array Goroutine)(w:World)(sl:Option (Nat × Nat))(t:Trace):Prop:=
 ∃N gs' b w' d a,runNT P N (crowd gs w sl) t=(.next (crowd gs' w' d),a)/\K5 P gs' a b/\w'.tape=tape/\Stop b w'
theorem Reach.step {Stop:Goroutine->World->Prop}{tape:Nat->Question->Nat}{a:Array Goroutine}{w1:World}{b:Option (Nat × Nat)}{ops:Trace}(m:stepT P (crowd gs w sl)=(.next (crowd a w1 b),ops))(h:Reach P Stop tape a w1 b (t++ops)):Reach P Stop tape gs w sl t:=by
 obtain⟨N,gs',o,w',d,f,g,hF,e,n⟩:=h;exact⟨N+1,gs',o,w',d,f,by simp only[runNT,m];exact g,hF,e,n⟩
theorem E2 (h:y.status=.running\/y.status=.finished):y.status≠.blocked:=by rcases h with h | h<;>rw[h]<;>simp
theorem PhI.offT (h:PhI P Low n0 t₀ x ow comps gs w t){vs:List Value}{r:Bool}(B:x.L[j]?=some (c,vs,r))(hl:l≠n0+j)(a:gs[l]?=some y):offersAt y c true=[]:=by
 have G:=(Array.getElem?_eq_some_iff.1 a).1;rcases KA l with rfl | E
 ·rcases h.zero with b | ⟨k,o,vs,z,F,_,_,_,⟨b,_⟩ | ⟨b,_⟩⟩
  ·rw[b] at a;cases a;exact offersAt_of_not_blocked (E2 (.inl h.run)) _ _
  ·rw[b] at a;cases a;exact offersAt_parked_recv' _ _ _ _ _
  ·rw[b] at a;cases a;exact offersAt_of_not_blocked (E2 (.inl rfl)) _ _
 ·rcases EZ l n0 with m | m
  ·obtain⟨q,y',_,d,f⟩:=h.old l E m
   rw[a] at d;cases d;exact offersAt_of_not_blocked (E2 f.status) _ _
  ·obtain⟨k,rfl⟩:∃k,l=n0+k:=⟨l - n0,AQ⟩
   have D:k<x.L.length:=by have:=h.siz;omega
   obtain⟨⟨o,A,seen⟩,n⟩:∃e,x.L[k]?=some e:=⟨_,DX D⟩
   rcases h.snd k o A seen n with⟨s,_,_,_,_,C,_,H,g | ⟨v,z,F,g,_⟩⟩ | ⟨q,y',_,d,f,_⟩
   ·rw[g] at a;cases a;exact offersAt_of_not_blocked (E2 (.inl C.inv.1)) _ _
   ·rw[g] at a;cases a
    rw[offersAt_parked_send,if_neg];rintro rfl;exact hl (by rw[h.dist k j _ _ _ _ _ n B])
   ·rw[d] at a;cases a;exact offersAt_of_not_blocked (E2 f.status) _ _
theorem PhI.offF (h:PhI P Low n0 t₀ x ow comps gs w t)(hl:l≠0)(a:gs[l]?=some y):offersAt y c false=[]:=by
 have B:=(Array.getElem?_eq_some_iff.1 a).1;rcases EZ l n0 with g | g
 ·obtain⟨q,y',_,b,d⟩:=h.old l AQ g
  rw[a] at b;cases b;exact offersAt_of_not_blocked (E2 d.status) _ _
 ·obtain⟨k,rfl⟩:∃k,l=n0+k:=⟨l - n0,AQ⟩
  have A:k<x.L.length:=by have:=h.siz;omega
  obtain⟨⟨o,n,seen⟩,m⟩:∃e,x.L[k]?=some e:=⟨_,DX A⟩
  rcases h.snd k o n seen m with⟨s,_,_,_,_,r,_,C,f | ⟨v,z,D,f,_⟩⟩ | ⟨q,y',_,b,d,_⟩
  ·rw[f] at a;cases a;exact offersAt_of_not_blocked (E2 (.inl r.inv.1)) _ _
  ·rw[f] at a;cases a;exact offersAt_parked_send' _ _ _ _ _ _
  ·rw[b] at a;cases a;exact offersAt_of_not_blocked (E2 d.status) _ _
theorem Of {b:Bool}(h:∀l y,l≠i->gs[l]?=some y->offersAt y c b=[]):partners (gs.setIfInBounds i ph) c b=[]:=by
 refine partners_nil λl y e=>?_
 rcases getElem?_stand gs i l y e with⟨_,rfl⟩ | ⟨a,d⟩
 ·exact offersAt_ph _ _
 ·exact h l y a d
theorem ZI {b:Bool}{g:Goroutine}(f:j≠i)(n:gs[j]?=some g)(m:offersAt g c b=[0])(h:∀l y,l≠i->l≠j->gs[l]?=some y->offersAt y c b=[]):partners (gs.setIfInBounds i ph) c b=[(j,0)]:=by
 rw[partners_one (stand_get f n) λl y a e=>?_,m]
 ·rfl
 ·rcases getElem?_stand gs i l y e with⟨_,rfl⟩ | ⟨o,d⟩
  ·exact offersAt_ph _ _
  ·exact h l y o a d
theorem PhI.ends (h:PhI P Low n0 t₀ x ow comps gs w t)(H:∀e∈x.L,e.2.2=true):K5 P gs t x.g:=by
 have B:∀(j c:Nat) (r:List Value) (b:Bool),x.L[j]?=some (c,r,b)->b=true:=λj c r b G=>H _ (G2 G)
 have hS:∀j,j<x.L.length->∃q y,gs[n0+j]?=some y/\QuitsIn P q y/\IU t (n0+j):=by
  intro j n;obtain⟨⟨D,F,seen⟩,A⟩:∃e,x.L[j]?=some e:=⟨_,DX n⟩
  obtain rfl:=B _ _ _ _ A;rcases h.snd j D F true A with⟨s,_,_,_,e,_⟩ | ⟨q,y',_,d,m,_,_,_,I⟩
  ·cases e
  ·exact⟨q,y',d,m,I rfl⟩
 refine⟨?_,?_,h.tr.past λj n=>(hS j n).choose_spec.choose_spec.2.2⟩
 ·rcases h.zero with E | ⟨k,D,r,z,J,a,_⟩
  ·exact E
  ·have:=B _ _ _ _ a;cases this
 ·have C:∀i,0<i->i<gs.size->∃q,∀y,gs[i]?=some y->QuitsD P q (Deaf t i) y:=by
   intro i hi v;rcases EZ i n0 with o | o
   ·obtain⟨q,y',_,d,m⟩:=h.old i hi o
    exact⟨q,λy f=>by rw[f] at d;cases d;exact m⟩
   ·obtain⟨k,rfl⟩:∃k,i=n0+k:=⟨i - n0,AQ⟩
    obtain⟨q,y',d,m,_⟩:=hS k (by have:=h.siz;omega);exact⟨q,λy f=>by rw[f] at d;cases d;rw[h.tr.hearS _ o];exact QuitsD.of_quitsIn m⟩
  classical
  refine⟨λi=>if hi:0<i/\i<gs.size then(C i hi.1 hi.2).choose else 0,λi y hi f=>?_,λj n=>h.tr.hearS j (by have:=h.siz;omega)⟩;have v:=(Array.getElem?_eq_some_iff.1 f).1;simp only[hi,v,and_self,dite_true];exact(C i hi v).choose_spec y f
end
section
variable {P : Program}{Low : Nat}{n0 : Nat}{t₀ : Trace}{Stop : Goroutine -> World -> Prop}
theorem zH {g:Goroutine}{cs:Array CommCase}{sh:CommShape}(hr:g.status=.running)(w:World):stepG P true {parked g cs sh with status:=.running} w=stepG P true g w:=by
 rw[stepG_tries];congr 1;obtain⟨a,b,c,d⟩:=g;simp at hr;subst hr;rfl
theorem pushes {t:Trace}{fn e:FuncId}{pos d:String}{k l:Nat}{a b:MemAct}:t++((MemOp.ofEvents k fn pos #[]).push {g:=k,fn,pos,act:=a}).push {g:=l,fn:=e,pos:=d,act:=b}=t++#[{g:=k,fn,pos,act:=a},{g:=l,fn:=e,pos:=d,act:=b}]:=by
 rw[ofEvents_eq];simp
theorem Oy (k:Nat)(fn:FuncId)(pos:String):MemOp.ofEvents k fn pos #[]=#[]:=by rw[ofEvents_eq];simp
theorem phase (tape:Nat->Question->Nat){x:RC}(h:EK P Low Stop x):
  ∀ow comps gs w t sl,PhI P Low n0 t₀ x ow comps gs w t->w.tape=tape->Reach P Stop tape gs w sl t:=by
 refine h (λx=>∀ow comps gs w t sl,PhI P Low n0 t₀ x ow comps gs w t->w.tape=tape->Reach P Stop tape gs w sl t) ?_;intro x hx ow comps gs w t sl f ak;have main:∀comps,Acc (RL (LD P Low)) comps->∀(n:Nat) (gs:Array Goroutine) (ow:Nat->Nat->Prop) (w:World) (t:Trace) (sl:Option (Nat × Nat)),cnt gs.toList=n->PhI P Low n0 t₀ x ow comps gs w t->w.tape=tape->Reach P Stop tape gs w sl t:=by
  intro comps a8;induction a8 with
  | intro comps _ uj=>
  intro n;induction n using Nat.strongRecOn with
  | ind n aH=>
  intro gs ow w t sl aI f ak;by_cases aC:(∀e∈x.L,e.2.2=true)/\∀aG,Keep Low x.O x.w aG->Stop x.g aG
  ·exact⟨0,gs,x.g,w,sl,t,rfl,f.ends aC.1,ak,aC.2 w f.keep⟩
  have hn:=f.pos
  obtain⟨i,y,d,X,hi,S,R⟩:=crowd_pick (P:=P) (w:=w) (sl:=sl) (λg A=>by
   obtain⟨i,hi⟩:=Array.mem_iff_getElem?.1 A
   exact(f.qt i g hi).awake) f.runs
  replace f:=f.at d;have V:(w.at d).tape=tape:=ak;generalize w.at d=w1 at f R V;clear ak;have an:=(Array.getElem?_eq_some_iff.1 hi).1;have aQ:∀(l:Nat) (g:Goroutine),(gs.setIfInBounds l g).size=gs.size:=λl g=>by simp
  have closed:∀(j c:Nat) (H:List Value) (z:Value) (q:Nat),i=0->x.L[j]?=some (c,H,false)->stepG P true y w1=.comm x.g #[rcase c z] true (.recv true) w1 #[]->comps[n0+j]?=some (.inr q)->
    ((∀v U,H=v::U->∀ow comps gs w t sl,PhI P Low n0 t₀ ⟨x.O,x.L.set j (c,U,false),Conc.served x.g (recvd true v true),w1⟩ ow comps gs w t->w.tape=tape->Reach P Stop tape gs w sl t)/\
     (H=[]->∀ow comps gs w t sl,PhI P Low n0 t₀ ⟨x.O,x.L.set j (c,[],true),Conc.served x.g (recvd true z false),w1⟩ ow comps gs w t->w.tape=tape->Reach P Stop tape gs w sl t))->Reach P Stop tape gs w sl t:=by
   intro j c H z q hi0 m e1 hq J;subst hi0;have ah:H=[]/\JF c w1/\∀y',gs[n0+j]?=some y'->y'.status≠.blocked:=by
    rcases f.snd j c H false m with⟨s',r,_⟩ | ⟨q,y,r,B,T,h4,h5,_⟩
    ·rw[hq] at r;cases r
    ·exact⟨h4,h5,λy' hy'=>by rw[hy'] at B;cases B;exact E2 T.status⟩
   obtain⟨ah,⟨a,b,C⟩,aY⟩:=ah;have Q:partners (gs.setIfInBounds 0 ph) c true=[]:=Of λl y' hl hy'=>by
    by_cases W:l=n0+j
    ·subst W;exact offersAt_of_not_blocked (aY y' hy') _ _
    ·exact f.offT m W hy'
   have o:=crowd_recv_closed (P:=P) (sl:=X) (i:=0) hi (show stepG P (0==0) y w1=_ from e1) C Q;rw[finishComm_recv,Oy,Array.empty_append] at o;refine Reach.step (R.trans o) (J.2 ah _ _ _ _ _ _ (f.seen m hq rfl (aQ _ _) (by simp[an]) (λl hl=>Bg hl) _ _) V)
  rcases KA i with rfl | aF
  ·rcases f.zero with G | ⟨j,c,H,z,I,m,M,K,⟨Q,_⟩ | ⟨Q,a7⟩⟩
   ·obtain rfl:y=x.g:=by rw[G] at hi;exact(DG hi).symm
    rcases hx.2 with bb | ag | ⟨c,C,aj⟩ | ⟨j,c,H,z,m,ac⟩
    ·exact absurd bb aC
    ·obtain⟨E,w',es,e1,hr,hS,J⟩:=ag w1 f.keep
     have Z:=f.own0' G hr hS x.g.frame.fn x.g.frame.place;have o:=runT_crowd_go (P:=P) (sl:=X) (i:=0) G (show stepG P (0==0) x.g w1=_ from e1);rw[Zb λl y' hl hy'=>(Z.qt l y' yFg).woken] at o;exact Reach.step (R.trans o) (J _ _ _ _ _ _ Z (hS.tape.trans V))
    ·obtain⟨E,child,H,e1,hr,ac,N,hS,J⟩:=aj w1 f.keep
     have o:=runT_crowd_spawn (P:=P) (sl:=X) (i:=0) G (show stepG P (0==0) x.g w1=_ from e1);refine Reach.step (R.trans o) ?_;rw[pushes];exact J _ _ _ _ _ _ (f.spawn G C hr N hS _ _ _ _) V
    ·obtain⟨e1,J⟩:=ac w1 f.keep
     have aS:=(f.lt m).2.1;rcases f.snd j c H false m with⟨s,s1,s2,s3,_,dM,hk,N,A | ⟨v,z',I,A,M,ao,K⟩⟩ | ⟨q,y,r,B,T,h4,h5,_⟩
     ·
      obtain⟨a,b,C⟩:=N;have Q:partners (gs.setIfInBounds 0 ph) c true=[]:=Of λl y' hl hy'=>by
       by_cases W:l=n0+j
       ·subst W;rw[A] at hy';cases hy';exact offersAt_of_not_blocked (E2 (.inl dM.inv.1)) _ _
       ·exact f.offT m W hy'
      have o:=crowd_waits (P:=P) (sl:=X) (i:=0) G (show stepG P (0==0) x.g w1=_ from e1) (λcc ae=>by
       have:cc=rcase c z:=by simpa using ae
       subst this
       exact ways_recv_none C Q)
      refine Reach.step (R.trans o) ?_;rw[Oy,Array.append_empty];refine aH _ ?_ _ _ _ _ _ rfl (f.park0 m s1 A e1) V;rw[<-aI,Array.toList_setIfInBounds];exact RX (x:=x.g) (by simpa using G) (E2 (.inl f.run)) rfl
     ·
      obtain⟨a,b,C⟩:=N;have a9:∃U,s.vs=v::U/\(∃z,stepG P false s.g w1=.comm s.g #[scase s.c v z] true .send w1 #[])/\D4 P Low ⟨s.c,s.O,U,Conc.served s.g undef,w1⟩:=by
       subst s2;rcases dM.inv.2 with aB | ⟨v',U,e,az⟩ | ⟨_,_,aA⟩
       ·obtain⟨E,w',es,F,_⟩:=aB I M ao
        rw[K] at F;cases F
       ·obtain⟨⟨z2,F⟩,_⟩:=az I M ao
        rw[K] at F;have:v'=v:=by
         have:=congrArg (λs=>match s with | GStep.comm _ cs _ _ _ _=>cs.toList.map CommCase.send | _=>[]) F
         simp[scase] at this;exact this.symm
        subst this;exact⟨U,e,(az w1 hk ⟨a,b,C⟩).1,(az w1 hk ⟨a,b,C⟩).2⟩
       ·obtain⟨a',b',ap⟩:=ao
        obtain⟨E,n',F,_⟩:=aA I a' b' M ap;rw[K] at F;cases F
      obtain⟨U,ah,⟨z2,F⟩,a5⟩:=a9;have oV:=s3.trans ah;have aK:n0+j≠0:=AQ
      have Q:=ZI aK A (by rw[offersAt_parked_send,if_pos rfl]) λl y' hl W hy'=>f.offT m W hy'
      have o:=crowd_recv_meets (P:=P) (sl:=X) (i:=0) G (show stepG P (0==0) x.g w1=_ from e1) C aK A Q;rw[finishComm_recv,finishComm_send,Oy,Array.empty_append] at o;refine Reach.step (R.trans o) (J.1 v U oV _ _ _ _ _ _ (f.meet (oV ▸ m) s1 a5 rfl AU ?_ ?_ ?_ ?_) V)
      ·simp[an]
      ·rw[Bg AQ];exact E9 aS
      ·intro l r B;rw[Bg r,Bg B]
      ·intro op al
       simp at al;rcases al with rfl | rfl | rfl | rfl<;>simp[MemAct.touch?]
     ·exact closed j c H z q rfl m e1 r J
   ·rw[Q] at hi
    have:=DG hi
    rw[<-this] at S;cases S
   ·have aV:y={parked x.g #[rcase c z] (.recv true) with status:=.running}:=by rw[Q] at hi;exact(DG hi).symm
    have aT:stepG P true y w1=stepG P true x.g w1:=by rw[aV];exact zH f.run w1
    obtain⟨q,hq⟩:∃q,comps[n0+j]?=some (.inr q):=by
     rcases f.snd j c H false m with⟨s,s1,s2,s3,_,dM,hk,⟨a,b,N⟩,_⟩ | ⟨q,y,r,_⟩
     ·obtain⟨a',b',ap⟩:=a7
      rw[N] at ap;cases ap
     ·exact⟨q,r⟩
    rcases hx.2 with⟨aD,_⟩ | ag | ⟨c,C,aj⟩ | ⟨j',Y,U,z',af,ac⟩
    ·have:=aD _ (G2 m);cases this
    ·obtain⟨E,w',es,e1,_⟩:=ag I M
     rw[K] at e1;cases e1
    ·obtain⟨E,child,H,e1,_⟩:=aj I M
     rw[K] at e1;cases e1
    ·have F:=(ac I M).1
     rw[K] at F;have:c=Y/\z=z':=by
      have:=congrArg (λs=>match s with | GStep.comm _ cs _ _ _ _=>cs.toList | _=>[]) F
      simp[rcase] at this;exact this
     obtain⟨rfl,rfl⟩:=this;obtain rfl:=f.dist j j' c _ _ _ _ m af;rw[m] at af;cases af;obtain⟨e1,J⟩:=ac w1 f.keep;exact closed j c H z q rfl m (aT.trans e1) hq J
  ·have hi0:(i==0)=false:=by simp;omega
   rcases EZ i n0 with ay | ay
   ·
    obtain⟨q,y',r,B,T⟩:=f.old i aF ay;rw[hi] at B;cases B;cases q with
    | zero=>rw[T.1] at S;cases S
    | succ k=>
     rcases T with⟨hf,_⟩ | ⟨_,y',es,hm,av,ar⟩
     ·rw[hf] at S;cases S
     have Z:=f.slipOld aF ay hm ar y.frame.fn y.frame.place;have o:=runT_crowd_go (P:=P) (sl:=X) (i:=i) hi (by rw[hi0];exact av w1);rw[Zb λl y' hl hy'=>(Z.qt l y' yFg).woken] at o;exact Reach.step (R.trans o) (uj _ ⟨i, .inr (k+1), .inr k,r,DV k,rfl⟩ _ _ _ _ _ _ rfl Z V)
   ·obtain⟨j,rfl⟩:∃j,i=n0+j:=⟨i - n0,AQ⟩
    have hj:j<x.L.length:=by have:=f.siz;omega
    obtain⟨⟨c,au,seen⟩,m⟩:∃e,x.L[j]?=some e:=⟨_,DX hj⟩
    rcases f.snd j c au seen m with⟨s,s1,s2,s3,s4,dM,hk,N,A | ⟨v,z',I,A,M,ao,K⟩⟩ | ⟨q,y',r,B,T,h4,h5,_⟩
    ·obtain rfl:y=s.g:=by rw[A] at hi;exact(DG hi).symm
     subst s2 s4;rcases dM.inv.2 with ag | ⟨v,U,e,hv⟩ | ⟨aP,aZ,aA⟩
     ·obtain⟨E,w',es,e1,hr,hS,J⟩:=ag w1 hk N
      have Z:=f.ownJ hj s1 A hr hS J s.g.frame.fn s.g.frame.place;have o:=runT_crowd_go (P:=P) (sl:=X) (i:=n0+j) A yGc;rw[Zb λl y' hl hy'=>(Z.qt l y' yFg).woken] at o;refine Reach.step (R.trans o) (uj _ ⟨n0+j,_,_,s1,?_,rfl⟩ _ _ _ _ _ _ rfl Z (hS.tape.trans V));refine⟨w1,hk,N, .inl ⟨E,w',es,e1,N.chg hS.chg λhb=>?_,rfl⟩⟩;have:=f.ows.apart _ _ _ (f.chan j _ _ _ m).1 (f.ownS j s s1 _ hb)
      omega
     ·obtain⟨⟨z,e1⟩,J⟩:=hv w1 hk N
      obtain⟨a,b,C⟩:=id N;by_cases aM:∃z',gs[0]?=some (parked x.g #[rcase s.c z'] (.recv true))
      ·obtain⟨z',ab⟩:=aM
       have Q:partners (gs.setIfInBounds (n0+j) ph) s.c false=[(0,0)]:=ZI AQ ab (by rw[offersAt_parked_recv,if_pos rfl]) λl y' hl ai hy'=>f.offF ai hy'
       have o:=crowd_send_meets (P:=P) (sl:=X) (i:=n0+j) (j:=0) A yGc C AQ ab Q;rw[finishComm_recv,finishComm_send,Oy,Array.empty_append] at o;rcases f.zero with G | ⟨k,Y,aJ,z2,I,aa,M,K,⟨D,_⟩ | ⟨D,_⟩⟩
       ·rw[G] at ab
        have:=congrArg Goroutine.status (DG ab)
        rw[f.run] at this;cases this
       ·rw[D] at ab
        have aW:Y=s.c/\z2=z':=by
         have:=congrArg Goroutine.offers (DG ab)
         simp[parked,rcase] at this;exact this
        obtain⟨rfl,rfl⟩:=aW;obtain rfl:=f.dist k j s.c _ _ _ _ aa m;rw[m] at aa;cases aa;rcases hx.2 with⟨aD,_⟩ | ag | ⟨c,C,aj⟩ | ⟨j',Y,bf,z3,af,ac⟩
        ·have:=aD _ (G2 m);cases this
        ·obtain⟨E,w',es,e1,_⟩:=ag I M
         rw[K] at e1;cases e1
        ·obtain⟨E,child,H,e1,_⟩:=aj I M
         rw[K] at e1;cases e1
        ·have F:=(ac I M).1
         rw[K] at F;have:s.c=Y:=by
          have:=congrArg (λs=>match s with | GStep.comm _ cs _ _ _ _=>cs.toList | _=>[]) F
          simp[rcase] at this;exact this.1
         subst this;obtain rfl:=f.dist k j' s.c _ _ _ _ m af;rw[m] at af;cases af;have oV:=s3.trans e;refine Reach.step (R.trans o) ((ac w1 f.keep).2.1 v U oV _ _ _ _ _ _ (f.meet (oV ▸ m) s1 J rfl AU ?_ ?_ ?_ ?_) V)
         ·rw[Bg AQ];exact E9 AQ
         ·exact E9 (by simpa using an)
         ·intro l r B;rw[Bg B,Bg r]
         ·intro op al
          simp at al;rcases al with rfl | rfl | rfl | rfl<;>simp[MemAct.touch?]
       ·rw[D] at ab
        have:=congrArg Goroutine.status (DG ab)
        simp[parked] at this
      ·have aE:∀z',gs[0]?≠some (parked x.g #[rcase s.c z'] (.recv true)):=λz' hz=>aM ⟨z',hz⟩
       have Q:partners (gs.setIfInBounds (n0+j) ph) s.c false=[]:=Of λl y' hl hy'=>by
        rcases KA l with rfl | ai
        ·rcases f.zero with G | ⟨k,Y,aJ,z2,I,aa,M,K,⟨D,_⟩ | ⟨D,_⟩⟩
         ·rw[G] at hy';cases hy';exact offersAt_of_not_blocked (E2 (.inl f.run)) _ _
         ·rw[D] at hy';cases hy'
          rw[offersAt_parked_recv,if_neg];rintro rfl;exact aE _ D
         ·rw[D] at hy';cases hy';exact offersAt_of_not_blocked (E2 (.inl rfl)) _ _
        ·exact f.offF AQ hy'
       have o:=crowd_waits (P:=P) (sl:=X) (i:=n0+j) A yGc (λcc ae=>by
        have:cc=scase s.c v z:=by simpa using ae
        subst this
        exact ways_send_none C AU Q)
       refine Reach.step (R.trans o) ?_;rw[Oy,Array.append_empty];refine aH _ ?_ _ _ _ _ _ rfl (f.parkJ m s1 A aE e1) V;rw[<-aI,Array.toList_setIfInBounds];exact RX (x:=s.g) (by simpa using A) (E2 (.inl dM.inv.1)) rfl
     ·obtain⟨a,b,C⟩:=id N
      obtain⟨E,nq,e1,hr,hq⟩:=aA w1 a b hk C;have aX:=s3.trans aP;subst aX;have o:=runT_crowd_go (P:=P) (sl:=X) (i:=n0+j) A yGc;have hC:EM (λb=>b=s.c) w1 (w1.shut s.c a b false):=EM.put w1 s.c _;have ba:∀l y',l≠0->l≠n0+j->gs[l]?=some y'->woken P s.g E (w1.shut s.c a b false) y'=y':=by
       intro l y' ai W hy';have bc:=(Array.getElem?_eq_some_iff.1 hy').1;rcases EZ l n0 with aL | aL
       ·obtain⟨q,y2,_,B,T⟩:=f.old l AQ aL
        rw[hy'] at B;cases B;exact woken_quitsD T
       ·obtain⟨k,rfl⟩:∃k,l=n0+k:=⟨l - n0,AQ⟩
        have aN:k<x.L.length:=by have:=f.siz;omega
        obtain⟨⟨Y,au,seen⟩,aa⟩:∃e,x.L[k]?=some e:=⟨_,DX aN⟩
        rcases f.snd k Y au seen aa with⟨s',_,_,_,_,ax,_,aB,r | ⟨v,z,I,r,_⟩⟩ | ⟨q,y2,_,B,T,_⟩
        ·rw[r] at hy';cases hy';exact woken_run ax.inv.1
        ·rw[r] at hy';cases hy'
         obtain⟨a2,b2,aw⟩:=aB.chg hC (λe=>W (by rw[f.dist k j s.c _ _ _ _ (e ▸ aa) m]));exact woken_send_open _ _ aw
        ·rw[B] at hy';cases hy'
         exact woken_quitsD (QuitsD.of_quitsIn T)
      have aR:((gs.map (woken P s.g E (w1.shut s.c a b false))).setIfInBounds (n0+j) E).size=gs.size:=AU
      refine Reach.step (R.trans o) (uj _ ⟨n0+j, .inl s, .inr nq,s1,trivial,rfl⟩ _ _ _ _ _ _ rfl (f.close m s1 C hq aR ?_ ?_ ?_ _ _) V)
      ·exact E9 (by simpa using an)
      ·intro l ai W
       rw[Bg W,K1];cases a6:gs[l]? with
       | none=>rfl
       | some y'=>simp[ba l y' ai W a6]
      ·rw[Bg AQ,K1]
       rcases f.zero with G | ⟨k,Y,aJ,z2,I,aa,M,K,⟨D,_⟩ | ⟨D,_⟩⟩
       ·refine .inl ⟨by rw[G];simp[woken_run f.run],λz hz=>?_⟩
        rw[G] at hz;have:=congrArg Goroutine.status (DG hz)
        rw[f.run] at this;cases this
       ·by_cases ae:Y=s.c
        ·subst ae
         refine .inr ⟨z2,D,?_⟩;rw[D];simp only[JM,CZ];have a3:(mayWake P s.g && E.status !=.blocked && E.status !=.waiting)=true:=by rw[aZ,hr];rfl
         unfold Conc.woken;rw[if_pos a3];exact again_recv_closed (heap_put C)
        ·refine .inl ⟨?_,λz hz=>?_⟩
         ·rw[D]
          simp only[JM,CZ];have aO:Zq Y w1:=by
           rcases f.qt 0 _ D with h | ⟨g2,c2,z3,sh,e,aU⟩ | ⟨g2,c2,v2,z3,sh,e,_⟩
           ·rcases h with h | h<;>cases h
           ·have:=congrArg Goroutine.offers e
            simp[parked,rcase] at this;rw[this.1.1];exact aU
           ·have:=congrArg Goroutine.offers e
            simp[parked,rcase,scase] at this
          obtain⟨a2,b2,aw⟩:=aO.chg hC ae;exact woken_recv_open _ _ aw
         ·rw[D] at hz
          have:=congrArg Goroutine.offers (DG hz)
          simp[parked,rcase] at this;exact ae this.1
       ·refine .inl ⟨by rw[D];simp only[JM,CZ];exact woken_run rfl,λz hz=>?_⟩
        rw[D] at hz;have:=congrArg Goroutine.status (DG hz)
        simp[parked] at this
    ·rw[A] at hi
     have:=DG hi
     rw[<-this] at S;cases S
    ·rw[hi] at B;cases B
     cases q with
     | zero=>rw[show y.status=.finished from T] at S;cases S
     | succ k=>
      rcases T with hf | ⟨_,y',av,ar⟩
      ·rw[hf] at S;cases S
      have Z:=f.slipJ m r ar;have o:=runT_crowd_go (P:=P) (sl:=X) (i:=n0+j) hi (by rw[hi0];exact av w1);rw[Zb λl y' hl hy'=>(Z.qt l y' yFg).woken] at o;refine Reach.step (R.trans o) ?_;rw[Oy,Array.append_empty];exact uj _ ⟨n0+j, .inr (k+1), .inr k,r,DV k,rfl⟩ _ _ _ _ _ _ rfl Z V
 exact main comps f.acc _ gs ow w t sl rfl f ak
end
