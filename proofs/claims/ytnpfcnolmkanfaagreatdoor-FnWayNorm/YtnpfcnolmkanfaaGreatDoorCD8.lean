import Derived.Test.YtnpfcnolmkanfaaGreatDoorCD5
namespace Go.Co
open Go.Conc
section
variable {c j k:Nat}{y':Goroutine}{z:Value}
variable {P : Program}{Low : Nat}{n0 : Nat}{t₀ : Trace}{x : RC}{ow : Nat -> Nat -> Prop}{comps iP : List (SC ⊕ Nat)}{gs gs' : Array Goroutine}{w w' : World}{t u : Trace}
theorem PhI.park0 (h:PhI P Low n0 t₀ x ow comps gs w t){vs:List Value}{s:SC}(m:x.L[j]?=some (c,vs,false))(A:comps[n0+j]?=some (.inl s))(hg:gs[n0+j]?=some s.g)
  (B:stepG P true x.g w=.comm x.g #[rcase c z] true (.recv true) w #[]):PhI P Low n0 t₀ x ow comps (gs.setIfInBounds 0 (parked x.g #[rcase c z] (.recv true))) w t:=by
 have H:=h.pos;have r:0<gs.size:=by have:=(h.lt m).2.1;omega
 refine⟨h.pos,by simpa using h.len,h.c0,by simpa using h.siz,h.run,h.keep, .inr ⟨j,c,vs,z,w,m,h.keep,B, .inl ⟨by simp[r],s,A,by rw[Bg omz];exact hg⟩⟩,λi hi o=>?_,λk n G seen D=>?_,h.own0,h.ownS,h.chan,h.dist,h.ows,h.low,h.tr⟩
 ·obtain⟨q,y,a,d,b⟩:=h.old i hi o
  exact⟨q,y,a,by rw[Bg omz];exact d,b⟩
 ·have e:(gs.setIfInBounds 0 (parked x.g #[rcase c z] (.recv true)))[n0+k]?=gs[n0+k]?:=Bg omz
  rcases h.snd k n G seen D with⟨s,a,d,b,f,E,F,C,v⟩ | ⟨q,y,a,d,b,f⟩
  ·exact .inl ⟨s,a,d,b,f,E,F,C,by rw[e];exact v⟩
  ·exact .inr ⟨q,y,a,by rw[e];exact d,b,f⟩
theorem PhI.parkJ (h:PhI P Low n0 t₀ x ow comps gs w t){I:List Value}{v:Value}{s:SC}(C:x.L[j]?=some (c,I,false))(F:comps[n0+j]?=some (.inl s))(hg:gs[n0+j]?=some s.g)
  (T:∀A,gs[0]?≠some (parked x.g #[rcase c A] (.recv true)))
  (S:stepG P false s.g w=.comm s.g #[scase c v z] true .send w #[]):PhI P Low n0 t₀ x ow comps (gs.setIfInBounds (n0+j) (parked s.g #[scase c v z] .send)) w t:=by
 have W:=h.pos;obtain⟨X,U,V⟩:=h.lt C;refine⟨h.pos,by simpa using h.len,h.c0,by simpa using h.siz,h.run,h.keep,?_,λi hi R=>?_,λk B I seen G=>?_,h.own0,h.ownS,h.chan,h.dist,h.ows,h.low,h.tr⟩
 ·rcases h.zero with h0 | ⟨k,B,J,A,O,a,b,Q,⟨d,K,e,f⟩ | ⟨d,e⟩⟩
  ·exact .inl yEi
  ·have N:k≠j:=by
    rintro rfl;rw[C] at a;cases a;exact T A d
   exact .inr ⟨k,B,J,A,O,a,b,Q, .inl ⟨by rw[Bg omz];exact d,K,e,by rw[Bg omz];exact f⟩⟩
  ·exact .inr ⟨k,B,J,A,O,a,b,Q, .inr ⟨by rw[Bg omz];exact d,e⟩⟩
 ·obtain⟨q,y,m,o,n⟩:=h.old i hi R
  exact⟨q,y,m,by rw[Bg omz];exact o,n⟩
 ·by_cases N:k=j
  ·subst N
   rw[C] at G;cases G;rcases h.snd k c _ _ C with⟨K,m,o,n,r,H,E,D,M⟩ | ⟨q,y,m,o,n,r⟩
   ·rw[F] at m;cases m
    exact .inl ⟨s,F,o,n,r,H,E,D, .inr ⟨v,z,w,A6u U,E,D,S⟩⟩
   ·rw[F] at m;cases m
  ·have e:(gs.setIfInBounds (n0+j) (parked s.g #[scase c v z] .send))[n0+k]?=gs[n0+k]?:=Bg omz
   rcases h.snd k B I seen G with⟨s,m,o,n,r,H,E,D,M⟩ | ⟨q,y,m,o,n,r⟩
   ·exact .inl ⟨s,m,o,n,r,H,E,D,by rw[e];exact M⟩
   ·exact .inr ⟨q,y,m,by rw[e];exact o,n,r⟩
theorem PhI.close (h:PhI P Low n0 t₀ x ow comps gs w t){s:SC}{g':Goroutine}{n C B:Nat}(o:x.L[j]?=some (c,[],false))(hs:comps[n0+j]?=some (.inl s))(W:w.heap[c]?=some (.chan 0 #[] false C B false))(hq:QuitsIn P n g')
  (Q:gs'.size=gs.size) (hJ:gs'[n0+j]?=some g') (H:∀l,l≠0->l≠n0+j->gs'[l]?=gs[l]?)
  (m:(gs'[0]?=gs[0]?/\∀z,gs[0]?≠some (parked x.g #[rcase c z] (.recv true)))\/∃z,gs[0]?=some (parked x.g #[rcase c z] (.recv true))/\gs'[0]?=some {parked x.g #[rcase c z] (.recv true) with status:=.running}) (fn:FuncId) (pos:String):
  PhI P Low n0 t₀ x ow (comps.set (n0+j) (.inr n)) gs' (w.shut c C B false) (t++MemOp.ofEvents (n0+j) fn pos #[⟨.obj c,false,true⟩,⟨.obj c,true,true⟩]):=by
 have hn:=h.pos;obtain⟨hj,ag,R⟩:=h.lt o;have I:Chg (λb=>b=c) w (w.shut c C B false):=Chg.put w c _;have Y:Ao0 c (w.shut c C B false):=⟨C,B,heap_put W⟩
 obtain⟨X,hO⟩:=h.part (S:=λb=>b=c) (k:=0) (by rintro b rfl;exact(h.chan j _ _ _ o).1);have aa:∀b,x.O b->b<w.heap.size/\¬b=c:=λb F=>⟨h.ows.up _ _ (h.own0 b F),λe=>(h.chan j _ _ _ o).2 (e ▸ F)⟩
 have U:(w.shut c C B false).heap.size=w.heap.size:=by simp[World.shut]
 obtain⟨af,ab⟩:=h.tr.close (k:=n0+j) (c:=c) h.ows ⟨j,hj,rfl⟩ fn pos;refine⟨h.pos,by rw[Q];simpa using h.len,by rw[A6c omz];exact h.c0,by rw[Q];exact h.siz,h.run,h.keep.chg I aa X,?_,λi hi Z=>?_,λk v ae seen G=>?_,h.own0,λk A D b F=>?_,h.chan,h.dist,by rw[U];exact h.ows,by rw[U];exact h.low,af⟩
 ·rcases h.zero with V | ⟨k,v,T,E,J,a,b,K,⟨d,A,e,f⟩ | ⟨d,e⟩⟩
  ·rcases m with⟨m,_⟩ | ⟨z,m,_⟩
   ·exact .inl (by rw[m];exact V)
   ·rw[V] at m
    have:=congrArg Goroutine.status (A67 m)
    rw[h.run] at this;cases this
  ·by_cases r:k=j
   ·subst r
    rw[o] at a;cases a;rcases m with⟨_,m⟩ | ⟨z,m,N⟩
    ·exact absurd d (m E)
    ·rw[d] at m
     have hz:E=z:=by
      have:=congrArg Goroutine.offers (A67 m)
      simp[parked,rcase] at this;exact this
     subst hz;exact .inr ⟨k,c,[],E,J,o,b,K, .inr ⟨N,Y⟩⟩
   ·have M:v≠c:=λe=>r (h.dist k j c _ _ _ _ (e ▸ a) o)
    rcases m with⟨m,_⟩ | ⟨z,m,N⟩
    ·exact .inr ⟨k,v,T,E,J,a,b,K, .inl ⟨by rw[m];exact d,A,by rw[A6c omz];exact e,by rw[H _ omz omz];exact f⟩⟩
    ·rw[d] at m
     have:=congrArg Goroutine.offers (A67 m)
     simp[parked,rcase] at this;exact absurd this.1 M
  ·rcases m with⟨m,_⟩ | ⟨z,m,N⟩
   ·have r:k≠j:=by
     rintro rfl;rw[o] at a;cases a;obtain⟨a1,a2,e⟩:=e;rw[W] at e;cases e
    have M:¬v=c:=λe=>r (h.dist k j c _ _ _ _ (e ▸ a) o)
    exact .inr ⟨k,v,T,E,J,a,b,K, .inr ⟨by rw[m];exact d,e.chg I M⟩⟩
   ·rw[d] at m
    have:=congrArg Goroutine.status (A67 m)
    simp[parked] at this
 ·obtain⟨q,y,h1,h2,h3⟩:=h.old i hi Z
  exact⟨q,y,by rw[A6c omz];exact h1,by rw[H _ omz omz];exact h2,Y9 h3 (Kr omz)⟩
 ·by_cases r:k=j
  ·subst r
   rw[o] at G;cases G;exact .inr ⟨n,g',A6r R,hJ,hq,rfl,Y,ab,λe=>by cases e⟩
  ·exact(h.snd k v ae seen G).turn (A6c omz) (H _ omz omz) I (λA D=>hO (n0+k) A.O omz (h.ownS k A D)) X (λe=>r (h.dist k j c _ _ _ _ (e ▸ G) o)) (λop ac e=>absurd e (Kr omz op ac))
 ·by_cases r:k=j
  ·subst r
   rw[A6r R] at D;cases D
  ·rw[A6c omz] at D
   exact h.ownS k A D b F
theorem PhI.slipOld (h:PhI P Low n0 t₀ x ow comps gs w t){i:Nat}{es:Array Event}(hi:0<i)(V:i<n0)(F:∀e∈es,Event.mute e=true)(E:QuitsD P k (deafBehind (Deaf t i) es) y')(fn:FuncId)(pos:String):
  PhI P Low n0 t₀ x ow (comps.set i (.inr k)) (gs.setIfInBounds i y') w (t++MemOp.ofEvents i fn pos es):=by
 have W:=h.siz;have X:=h.len;have T:Tr Low n0 x.L.length t₀ (t++MemOp.ofEvents i fn pos es) ow:=h.tr.silent λop s=>by
  obtain⟨e,D,rfl⟩:=Go.Conc.mem_ofEvents s;exact⟨touch_mute (F e D),λo=>by rcases o with o | o<;>(simp at o;omega)⟩
 obtain⟨N,M⟩:=h.part (S:=λ_=>False) (k:=0) (λb r=>r.elim);refine⟨h.pos,by simpa using h.len,by rw[A6c omz];exact h.c0,by simpa using h.siz,h.run,h.keep,?_,λl J G=>?_,λl m R seen I=>?_,h.own0,λl g n b r=>?_,h.chan,h.dist,h.ows,h.low,T⟩
 ·rcases h.zero with h0 | ⟨k,m,v,C,A,a,b,B,⟨d,g,e,f⟩ | ⟨d,e⟩⟩
  ·exact .inl yEi
  ·exact .inr ⟨k,m,v,C,A,a,b,B, .inl ⟨by rw[Bg omz];exact d,g,by rw[A6c omz];exact e,by rw[Bg omz];exact f⟩⟩
  ·exact .inr ⟨k,m,v,C,A,a,b,B, .inr ⟨by rw[Bg omz];exact d,e⟩⟩
 ·by_cases K:i=l
  ·subst K
   exact⟨k,y',A6r omz,A6u omz,by rw[Deaf_own];exact E⟩
  ·obtain⟨q,y,H,U,Q⟩:=h.old l J G
   exact⟨q,y,by rw[A6c omz];exact H,by rw[Bg omz];exact U,Y9 Q (Kr omz)⟩
 ·exact(h.snd l m R seen I).turn (A6c omz) (Bg omz) (Chg.same w) (λg n=>M (n0+l) g.O (by have:=h.pos;omega) (h.ownS l g n)) N id (λop s e=>absurd e (Kr omz op s))
 ·rw[A6c omz] at n
  exact h.ownS l g n b r
theorem PhI.slipJ (h:PhI P Low n0 t₀ x ow comps gs w t){q:Nat}{e:Nat × List Value × Bool}(N:x.L[j]?=some e)(F:comps[n0+j]?=some (.inr q))(O:QuitsIn P k y'):
  PhI P Low n0 t₀ x ow (comps.set (n0+j) (.inr k)) (gs.setIfInBounds (n0+j) y') w t:=by
 have Z:=h.pos;obtain⟨hj,X,C⟩:=h.lt N;refine⟨h.pos,by simpa using h.len,by rw[A6c omz];exact h.c0,by simpa using h.siz,h.run,h.keep,?_,λl W S=>?_,λl o M seen G=>?_,h.own0,λl B v b Q=>?_,h.chan,h.dist,h.ows,h.low,h.tr⟩
 ·rcases h.zero with h0 | ⟨k,o,D,K,H,a,b,I,⟨d,B,e,f⟩ | ⟨d,e⟩⟩
  ·exact .inl yEi
  ·have Y:k≠j:=by
    rintro rfl;rw[F] at e;cases e
   exact .inr ⟨k,o,D,K,H,a,b,I, .inl ⟨by rw[Bg omz];exact d,B,by rw[A6c omz];exact e,by rw[Bg omz];exact f⟩⟩
  ·exact .inr ⟨k,o,D,K,H,a,b,I, .inr ⟨by rw[Bg omz];exact d,e⟩⟩
 ·obtain⟨q,y,g,n,m⟩:=h.old l W S
  exact⟨q,y,by rw[A6c omz];exact g,by rw[Bg omz];exact n,m⟩
 ·by_cases A:l=j
  ·subst A
   rcases h.snd l o M seen G with⟨s,g,_⟩ | ⟨q,y,g,n,m,r⟩
   ·rw[F] at g;cases g
   ·exact .inr ⟨k,y',A6r C,A6u X,O,r⟩
  ·have J:(comps.set (n0+j) (.inr k))[n0+l]?=comps[n0+l]?:=A6c omz
   have E:(gs.setIfInBounds (n0+j) y')[n0+l]?=gs[n0+l]?:=Bg omz;rcases h.snd l o M seen G with⟨s,g,n,m,r,U,V,T,R⟩ | ⟨q,y,g,n,m,r⟩
   ·exact .inl ⟨s,by rw[J];exact g,n,m,r,U,V,T,by rw[E];exact R⟩
   ·exact .inr ⟨q,y,by rw[J];exact g,by rw[E];exact n,m,r⟩
 ·by_cases A:l=j
  ·subst A
   rw[A6r C] at v;cases v
  ·rw[A6c omz] at v
   exact h.ownS l B v b Q
end
section
variable {c i j l:Nat}{y:Goroutine}
variable {P : Program}{Low : Nat}{n0 : Nat}{t₀ : Trace}{x : RC}{ow : Nat -> Nat -> Prop}{comps : List (SC ⊕ Nat)}{gs : Array Goroutine}{w : World}{t : Trace}{sl : Option (Nat × Nat)}
def Reach (P:Program)(Stop:Goroutine->World->Prop)(tape:Nat->Question->Nat)(gs:Array Goroutine)(w:World)(sl:Option (Nat × Nat))(t:Trace):Prop:=
 ∃N gs' b w' d a,runNT P N (crowd gs w sl) t=(.next (crowd gs' w' d),a)/\Frm P gs' a b/\w'.tape=tape/\Stop b w'
theorem Reach.step {Stop:Goroutine->World->Prop}{tape:Nat->Question->Nat}{b:Array Goroutine}{w1:World}{a:Option (Nat × Nat)}{ops:Trace}(n:stepT P (crowd gs w sl)=(.next (crowd b w1 a),ops))(h:Reach P Stop tape b w1 a (t++ops)):Reach P Stop tape gs w sl t:=by
 obtain⟨N,gs',m,w',o,g,f,hF,d,e⟩:=h;exact⟨N+1,gs',m,w',o,g,by simp only[runNT,n];exact f,hF,d,e⟩
theorem Aal (h:y.status=.running\/y.status=.finished):y.status≠.blocked:=by rcases h with h | h<;>rw[h]<;>simp
theorem PhI.offT (h:PhI P Low n0 t₀ x ow comps gs w t){vs:List Value}{A:Bool}(C:x.L[j]?=some (c,vs,A))(hl:l≠n0+j)(a:gs[l]?=some y):offersAt y c true=[]:=by
 have G:=(Array.getElem?_eq_some_iff.1 a).1;rcases A8e l with rfl | D
 ·rcases h.zero with b | ⟨k,m,vs,z,E,_,_,_,⟨b,_⟩ | ⟨b,_⟩⟩
  ·rw[b] at a;cases a;exact offersAt_of_not_blocked (Aal (.inl h.run)) _ _
  ·rw[b] at a;cases a;exact offersAt_parked_recv' _ _ _ _ _
  ·rw[b] at a;cases a;exact offersAt_of_not_blocked (Aal (.inl rfl)) _ _
 ·rcases A70 l n0 with o | o
  ·obtain⟨q,y',_,d,g⟩:=h.old l D o
   rw[a] at d;cases d;exact offersAt_of_not_blocked (Aal g.status) _ _
  ·obtain⟨k,rfl⟩:∃k,l=n0+k:=⟨l - n0,omz⟩
   have r:k<x.L.length:=by have:=h.siz;omega
   obtain⟨⟨m,F,seen⟩,n⟩:∃e,x.L[k]?=some e:=⟨_,A6j r⟩
   rcases h.snd k m F seen n with⟨s,_,_,_,_,B,_,H,f | ⟨v,z,E,f,_⟩⟩ | ⟨q,y',_,d,g,_⟩
   ·rw[f] at a;cases a;exact offersAt_of_not_blocked (Aal (.inl B.inv.1)) _ _
   ·rw[f] at a;cases a
    rw[offersAt_parked_send,if_neg];rintro rfl;exact hl (by rw[h.dist k j _ _ _ _ _ n C])
   ·rw[d] at a;cases a;exact offersAt_of_not_blocked (Aal g.status) _ _
theorem PhI.offF (h:PhI P Low n0 t₀ x ow comps gs w t)(hl:l≠0)(a:gs[l]?=some y):offersAt y c false=[]:=by
 have B:=(Array.getElem?_eq_some_iff.1 a).1;rcases A70 l n0 with g | g
 ·obtain⟨q,y',_,b,f⟩:=h.old l omz g
  rw[a] at b;cases b;exact offersAt_of_not_blocked (Aal f.status) _ _
 ·obtain⟨k,rfl⟩:∃k,l=n0+k:=⟨l - n0,omz⟩
  have n:k<x.L.length:=by have:=h.siz;omega
  obtain⟨⟨m,A,seen⟩,r⟩:∃e,x.L[k]?=some e:=⟨_,A6j n⟩
  rcases h.snd k m A seen r with⟨s,_,_,_,_,o,_,D,d | ⟨v,z,C,d,_⟩⟩ | ⟨q,y',_,b,f,_⟩
  ·rw[d] at a;cases a;exact offersAt_of_not_blocked (Aal (.inl o.inv.1)) _ _
  ·rw[d] at a;cases a;exact offersAt_parked_send' _ _ _ _ _ _
  ·rw[b] at a;cases a;exact offersAt_of_not_blocked (Aal f.status) _ _
theorem Ad2 {b:Bool}(h:∀l y,l≠i->gs[l]?=some y->offersAt y c b=[]):partners (gs.setIfInBounds i ph) c b=[]:=by
 refine partners_nil λl y a=>?_
 rcases getElem?_stand gs i l y a with⟨_,rfl⟩ | ⟨e,d⟩
 ·exact offersAt_ph _ _
 ·exact h l y e d
theorem Aph {b:Bool}{g:Goroutine}(m:j≠i)(f:gs[j]?=some g)(a:offersAt g c b=[0])(h:∀l y,l≠i->l≠j->gs[l]?=some y->offersAt y c b=[]):partners (gs.setIfInBounds i ph) c b=[(j,0)]:=by
 rw[partners_one (stand_get m f) λl y o n=>?_,a]
 ·rfl
 ·rcases getElem?_stand gs i l y n with⟨_,rfl⟩ | ⟨d,e⟩
  ·exact offersAt_ph _ _
  ·exact h l y d o e
theorem PhI.ends (h:PhI P Low n0 t₀ x ow comps gs w t)(G:∀e∈x.L,e.2.2=true):Frm P gs t x.g:=by
 have C:∀(j c:Nat) (o:List Value) (b:Bool),x.L[j]?=some (c,o,b)->b=true:=λj c o b F=>G _ (A7w F)
 have hS:∀j,j<x.L.length->∃q y,gs[n0+j]?=some y/\QuitsIn P q y/\Zw t (n0+j):=by
  intro j n;obtain⟨⟨A,I,seen⟩,B⟩:∃e,x.L[j]?=some e:=⟨_,A6j n⟩
  obtain rfl:=C _ _ _ _ B;rcases h.snd j A I true B with⟨s,_,_,_,e,_⟩ | ⟨q,y',_,d,m,_,_,_,H⟩
  ·cases e
  ·exact⟨q,y',d,m,H rfl⟩
 refine⟨?_,?_,h.tr.past λj n=>(hS j n).choose_spec.choose_spec.2.2⟩
 ·rcases h.zero with E | ⟨k,A,o,z,J,a,_⟩
  ·exact E
  ·have:=C _ _ _ _ a;cases this
 ·have D:∀i,0<i->i<gs.size->∃q,∀y,gs[i]?=some y->QuitsD P q (Deaf t i) y:=by
   intro i hi r;rcases A70 i n0 with v | v
   ·obtain⟨q,y',_,d,m⟩:=h.old i hi v
    exact⟨q,λy f=>by rw[f] at d;cases d;exact m⟩
   ·obtain⟨k,rfl⟩:∃k,i=n0+k:=⟨i - n0,omz⟩
    obtain⟨q,y',d,m,_⟩:=hS k (by have:=h.siz;omega);exact⟨q,λy f=>by rw[f] at d;cases d;rw[h.tr.hearS _ v];exact QuitsD.of_quitsIn m⟩
  classical
  refine⟨λi=>if hi:0<i/\i<gs.size then(D i hi.1 hi.2).choose else 0,λi y hi f=>?_,λj n=>h.tr.hearS j (by have:=h.siz;omega)⟩;have r:=(Array.getElem?_eq_some_iff.1 f).1;simp only[hi,r,and_self,dite_true];exact(D i hi r).choose_spec y f
end
section
variable {P : Program}{Low : Nat}{n0 : Nat}{t₀ : Trace}{Stop : Goroutine -> World -> Prop}
theorem Aq8 {g:Goroutine}{cs:Array CommCase}{sh:CommShape}(hr:g.status=.running)(w:World):stepG P true {parked g cs sh with status:=.running} w=stepG P true g w:=by
 rw[stepG_tries];congr 1;obtain⟨a,b,c,d⟩:=g;simp at hr;subst hr;rfl
theorem pushes {t:Trace}{fn e:FuncId}{pos d:String}{k l:Nat}{a b:MemAct}:t++((MemOp.ofEvents k fn pos #[]).push {g:=k,fn,pos,act:=a}).push {g:=l,fn:=e,pos:=d,act:=b}=t++#[{g:=k,fn,pos,act:=a},{g:=l,fn:=e,pos:=d,act:=b}]:=by
 rw[ofEvents_eq];simp
theorem Ns (k:Nat)(fn:FuncId)(pos:String):MemOp.ofEvents k fn pos #[]=#[]:=by rw[ofEvents_eq];simp
theorem phase (tape:Nat->Question->Nat){x:RC}(h:Rcv P Low Stop x):
  ∀ow comps gs w t sl,PhI P Low n0 t₀ x ow comps gs w t->w.tape=tape->Reach P Stop tape gs w sl t:=by
 refine h (λx=>∀ow comps gs w t sl,PhI P Low n0 t₀ x ow comps gs w t->w.tape=tape->Reach P Stop tape gs w sl t) ?_;intro x hx ow comps gs w t sl f aj;have main:∀comps,Acc (RL (A5d P Low)) comps->∀(n:Nat) (gs:Array Goroutine) (ow:Nat->Nat->Prop) (w:World) (t:Trace) (sl:Option (Nat × Nat)),cnt gs.toList=n->PhI P Low n0 t₀ x ow comps gs w t->w.tape=tape->Reach P Stop tape gs w sl t:=by
  intro comps aX;induction aX with
  | intro comps _ iw=>
  intro n;induction n using Nat.strongRecOn with
  | ind n aI=>
  intro gs ow w t sl aH f aj;by_cases aA:(∀e∈x.L,e.2.2=true)/\∀aF,Keep Low x.O x.w aF->Stop x.g aF
  ·exact⟨0,gs,x.g,w,sl,t,rfl,f.ends aA.1,aj,aA.2 w f.keep⟩
  have hn:=f.pos
  obtain⟨i,y,d,aa,hi,T,U⟩:=crowd_pick (P:=P) (w:=w) (sl:=sl) (λg C=>by
   obtain⟨i,hi⟩:=Array.mem_iff_getElem?.1 C
   exact(f.qt i g hi).awake) f.runs
  replace f:=f.at d;have W:(w.at d).tape=tape:=aj;generalize w.at d=w1 at f U W;clear aj;have ar:=(Array.getElem?_eq_some_iff.1 hi).1;have a9:∀(l:Nat) (g:Goroutine),(gs.setIfInBounds l g).size=gs.size:=λl g=>by simp
  have closed:∀(j c:Nat) (F:List Value) (z:Value) (q:Nat),i=0->x.L[j]?=some (c,F,false)->stepG P true y w1=.comm x.g #[rcase c z] true (.recv true) w1 #[]->comps[n0+j]?=some (.inr q)->
    ((∀v S,F=v::S->∀ow comps gs w t sl,PhI P Low n0 t₀ ⟨x.O,x.L.set j (c,S,false),Conc.served x.g (recvd true v true),w1⟩ ow comps gs w t->w.tape=tape->Reach P Stop tape gs w sl t)/\
     (F=[]->∀ow comps gs w t sl,PhI P Low n0 t₀ ⟨x.O,x.L.set j (c,[],true),Conc.served x.g (recvd true z false),w1⟩ ow comps gs w t->w.tape=tape->Reach P Stop tape gs w sl t))->Reach P Stop tape gs w sl t:=by
   intro j c F z q hi0 m e1 hq M;subst hi0;have an:F=[]/\Ao0 c w1/\∀y',gs[n0+j]?=some y'->y'.status≠.blocked:=by
    rcases f.snd j c F false m with⟨s',r,_⟩ | ⟨q,y,r,A,R,h4,h5,_⟩
    ·rw[hq] at r;cases r
    ·exact⟨h4,h5,λy' hy'=>by rw[hy'] at A;cases A;exact Aal R.status⟩
   obtain⟨an,⟨a,b,B⟩,ba⟩:=an;have N:partners (gs.setIfInBounds 0 ph) c true=[]:=Ad2 λl y' hl hy'=>by
    by_cases V:l=n0+j
    ·subst V;exact offersAt_of_not_blocked (ba y' hy') _ _
    ·exact f.offT m V hy'
   have o:=crowd_recv_closed (P:=P) (sl:=aa) (i:=0) hi (show stepG P (0==0) y w1=_ from e1) B N;rw[finishComm_recv,Ns,Array.empty_append] at o;refine Reach.step (U.trans o) (M.2 an _ _ _ _ _ _ (f.seen m hq rfl (a9 _ _) (by simp[ar]) (λl hl=>Bg hl) _ _) W)
  rcases A8e i with rfl | aE
  ·rcases f.zero with H | ⟨j,c,F,z,I,m,J,K,⟨N,_⟩ | ⟨N,aT⟩⟩
   ·obtain rfl:y=x.g:=by rw[H] at hi;exact(A67 hi).symm
    rcases hx.2 with aY | ag | ⟨c,B,ak⟩ | ⟨j,c,F,z,m,ae⟩
    ·exact absurd aY aA
    ·obtain⟨E,w',es,e1,hr,hS,M⟩:=ag w1 f.keep
     have Z:=f.own0' H hr hS x.g.frame.fn x.g.frame.place;have o:=runT_crowd_go (P:=P) (sl:=aa) (i:=0) H (show stepG P (0==0) x.g w1=_ from e1);rw[X9 λl y' hl hy'=>(Z.qt l y' yEj).woken] at o;exact Reach.step (U.trans o) (M _ _ _ _ _ _ Z (hS.tape.trans W))
    ·obtain⟨E,child,F,e1,hr,ae,Q,hS,M⟩:=ak w1 f.keep
     have o:=runT_crowd_spawn (P:=P) (sl:=aa) (i:=0) H (show stepG P (0==0) x.g w1=_ from e1);refine Reach.step (U.trans o) ?_;rw[pushes];exact M _ _ _ _ _ _ (f.spawn H B hr Q hS _ _ _ _) W
    ·obtain⟨e1,M⟩:=ae w1 f.keep
     have a6:=(f.lt m).2.1;rcases f.snd j c F false m with⟨s,s1,s2,s3,_,dG,hk,Q,C | ⟨v,Y,I,C,J,ao,K⟩⟩ | ⟨q,y,r,A,R,h4,h5,_⟩
     ·
      obtain⟨a,b,B⟩:=Q;have N:partners (gs.setIfInBounds 0 ph) c true=[]:=Ad2 λl y' hl hy'=>by
       by_cases V:l=n0+j
       ·subst V;rw[C] at hy';cases hy';exact offersAt_of_not_blocked (Aal (.inl dG.inv.1)) _ _
       ·exact f.offT m V hy'
      have o:=crowd_waits (P:=P) (sl:=aa) (i:=0) H (show stepG P (0==0) x.g w1=_ from e1) (λcc ah=>by
       have:cc=rcase c z:=by simpa using ah
       subst this
       exact ways_recv_none B N)
      refine Reach.step (U.trans o) ?_;rw[Ns,Array.append_empty];refine aI _ ?_ _ _ _ _ _ rfl (f.park0 m s1 C e1) W;rw[<-aH,Array.toList_setIfInBounds];exact Ax9 (x:=x.g) (by simpa using H) (Aal (.inl f.run)) rfl
     ·
      obtain⟨a,b,B⟩:=Q;have aW:∃S,s.vs=v::S/\(∃z,stepG P false s.g w1=.comm s.g #[scase s.c v z] true .send w1 #[])/\Snd P Low ⟨s.c,s.O,S,Conc.served s.g undef,w1⟩:=by
       subst s2;rcases dG.inv.2 with aB | ⟨v',S,e,ay⟩ | ⟨_,_,aw⟩
       ·obtain⟨E,w',es,G,_⟩:=aB I J ao
        rw[K] at G;cases G
       ·obtain⟨⟨z2,G⟩,_⟩:=ay I J ao
        rw[K] at G;have:v'=v:=by
         have:=congrArg (λs=>match s with | GStep.comm _ cs _ _ _ _=>cs.toList.map CommCase.send | _=>[]) G
         simp[scase] at this;exact this.symm
        subst this;exact⟨S,e,(ay w1 hk ⟨a,b,B⟩).1,(ay w1 hk ⟨a,b,B⟩).2⟩
       ·obtain⟨a',b',ap⟩:=ao
        obtain⟨E,n',G,_⟩:=aw I a' b' J ap;rw[K] at G;cases G
      obtain⟨S,an,⟨z2,G⟩,a7⟩:=aW;have mY:=s3.trans an;have aL:n0+j≠0:=omz
      have N:=Aph aL C (by rw[offersAt_parked_send,if_pos rfl]) λl y' hl V hy'=>f.offT m V hy'
      have o:=crowd_recv_meets (P:=P) (sl:=aa) (i:=0) H (show stepG P (0==0) x.g w1=_ from e1) B aL C N;rw[finishComm_recv,finishComm_send,Ns,Array.empty_append] at o;refine Reach.step (U.trans o) (M.1 v S mY _ _ _ _ _ _ (f.meet (mY ▸ m) s1 a7 rfl spz ?_ ?_ ?_ ?_) W)
      ·simp[ar]
      ·rw[Bg omz];exact A6u a6
      ·intro l r A;rw[Bg r,Bg A]
      ·intro op ai
       simp at ai;rcases ai with rfl | rfl | rfl | rfl<;>simp[MemAct.touch?]
     ·exact closed j c F z q rfl m e1 r M
   ·rw[N] at hi
    have:=A67 hi
    rw[<-this] at T;cases T
   ·have aO:y={parked x.g #[rcase c z] (.recv true) with status:=.running}:=by rw[N] at hi;exact(A67 hi).symm
    have aU:stepG P true y w1=stepG P true x.g w1:=by rw[aO];exact Aq8 f.run w1
    obtain⟨q,hq⟩:∃q,comps[n0+j]?=some (.inr q):=by
     rcases f.snd j c F false m with⟨s,s1,s2,s3,_,dG,hk,⟨a,b,Q⟩,_⟩ | ⟨q,y,r,_⟩
     ·obtain⟨a',b',ap⟩:=aT
      rw[Q] at ap;cases ap
     ·exact⟨q,r⟩
    rcases hx.2 with⟨av,_⟩ | ag | ⟨c,B,ak⟩ | ⟨j',X,S,Y,af,ae⟩
    ·have:=av _ (A7w m);cases this
    ·obtain⟨E,w',es,e1,_⟩:=ag I J
     rw[K] at e1;cases e1
    ·obtain⟨E,child,F,e1,_⟩:=ak I J
     rw[K] at e1;cases e1
    ·have G:=(ae I J).1
     rw[K] at G;have:c=X/\z=Y:=by
      have:=congrArg (λs=>match s with | GStep.comm _ cs _ _ _ _=>cs.toList | _=>[]) G
      simp[rcase] at this;exact this
     obtain⟨rfl,rfl⟩:=this;obtain rfl:=f.dist j j' c _ _ _ _ m af;rw[m] at af;cases af;obtain⟨e1,M⟩:=ae w1 f.keep;exact closed j c F z q rfl m (aU.trans e1) hq M
  ·have hi0:(i==0)=false:=by simp;omega
   rcases A70 i n0 with au | au
   ·
    obtain⟨q,y',r,A,R⟩:=f.old i aE au;rw[hi] at A;cases A;cases q with
    | zero=>rw[R.1] at T;cases T
    | succ k=>
     rcases R with⟨hf,_⟩ | ⟨_,y',es,hm,aC,az⟩
     ·rw[hf] at T;cases T
     have Z:=f.slipOld aE au hm az y.frame.fn y.frame.place;have o:=runT_crowd_go (P:=P) (sl:=aa) (i:=i) hi (by rw[hi0];exact aC w1);rw[X9 λl y' hl hy'=>(Z.qt l y' yEj).woken] at o;exact Reach.step (U.trans o) (iw _ ⟨i, .inr (k+1), .inr k,r,A69 k,rfl⟩ _ _ _ _ _ _ rfl Z W)
   ·obtain⟨j,rfl⟩:∃j,i=n0+j:=⟨i - n0,omz⟩
    have hj:j<x.L.length:=by have:=f.siz;omega
    obtain⟨⟨c,aD,seen⟩,m⟩:∃e,x.L[j]?=some e:=⟨_,A6j hj⟩
    rcases f.snd j c aD seen m with⟨s,s1,s2,s3,s4,dG,hk,Q,C | ⟨v,Y,I,C,J,ao,K⟩⟩ | ⟨q,y',r,A,R,h4,h5,_⟩
    ·obtain rfl:y=s.g:=by rw[C] at hi;exact(A67 hi).symm
     subst s2 s4;rcases dG.inv.2 with ag | ⟨v,S,e,hv⟩ | ⟨a8,aQ,aw⟩
     ·obtain⟨E,w',es,e1,hr,hS,M⟩:=ag w1 hk Q
      have Z:=f.ownJ hj s1 C hr hS M s.g.frame.fn s.g.frame.place;have o:=runT_crowd_go (P:=P) (sl:=aa) (i:=n0+j) C yFd;rw[X9 λl y' hl hy'=>(Z.qt l y' yEj).woken] at o;refine Reach.step (U.trans o) (iw _ ⟨n0+j,_,_,s1,?_,rfl⟩ _ _ _ _ _ _ rfl Z (hS.tape.trans W));refine⟨w1,hk,Q, .inl ⟨E,w',es,e1,Q.chg hS.chg λhb=>?_,rfl⟩⟩;have:=f.ows.apart _ _ _ (f.chan j _ _ _ m).1 (f.ownS j s s1 _ hb)
      omega
     ·obtain⟨⟨z,e1⟩,M⟩:=hv w1 hk Q
      obtain⟨a,b,B⟩:=id Q;by_cases aM:∃Y,gs[0]?=some (parked x.g #[rcase s.c Y] (.recv true))
      ·obtain⟨Y,ab⟩:=aM
       have N:partners (gs.setIfInBounds (n0+j) ph) s.c false=[(0,0)]:=Aph omz ab (by rw[offersAt_parked_recv,if_pos rfl]) λl y' hl al hy'=>f.offF al hy'
       have o:=crowd_send_meets (P:=P) (sl:=aa) (i:=n0+j) (j:=0) C yFd B omz ab N;rw[finishComm_recv,finishComm_send,Ns,Array.empty_append] at o;rcases f.zero with H | ⟨k,X,aG,z2,I,ac,J,K,⟨D,_⟩ | ⟨D,_⟩⟩
       ·rw[H] at ab
        have:=congrArg Goroutine.status (A67 ab)
        rw[f.run] at this;cases this
       ·rw[D] at ab
        have aP:X=s.c/\z2=Y:=by
         have:=congrArg Goroutine.offers (A67 ab)
         simp[parked,rcase] at this;exact this
        obtain⟨rfl,rfl⟩:=aP;obtain rfl:=f.dist k j s.c _ _ _ _ ac m;rw[m] at ac;cases ac;rcases hx.2 with⟨av,_⟩ | ag | ⟨c,B,ak⟩ | ⟨j',X,bb,z3,af,ae⟩
        ·have:=av _ (A7w m);cases this
        ·obtain⟨E,w',es,e1,_⟩:=ag I J
         rw[K] at e1;cases e1
        ·obtain⟨E,child,F,e1,_⟩:=ak I J
         rw[K] at e1;cases e1
        ·have G:=(ae I J).1
         rw[K] at G;have:s.c=X:=by
          have:=congrArg (λs=>match s with | GStep.comm _ cs _ _ _ _=>cs.toList | _=>[]) G
          simp[rcase] at this;exact this.1
         subst this;obtain rfl:=f.dist k j' s.c _ _ _ _ m af;rw[m] at af;cases af;have mY:=s3.trans e;refine Reach.step (U.trans o) ((ae w1 f.keep).2.1 v S mY _ _ _ _ _ _ (f.meet (mY ▸ m) s1 M rfl spz ?_ ?_ ?_ ?_) W)
         ·rw[Bg omz];exact A6u omz
         ·exact A6u (by simpa using ar)
         ·intro l r A;rw[Bg A,Bg r]
         ·intro op ai
          simp at ai;rcases ai with rfl | rfl | rfl | rfl<;>simp[MemAct.touch?]
       ·rw[D] at ab
        have:=congrArg Goroutine.status (A67 ab)
        simp[parked] at this
      ·have aK:∀Y,gs[0]?≠some (parked x.g #[rcase s.c Y] (.recv true)):=λY hz=>aM ⟨Y,hz⟩
       have N:partners (gs.setIfInBounds (n0+j) ph) s.c false=[]:=Ad2 λl y' hl hy'=>by
        rcases A8e l with rfl | al
        ·rcases f.zero with H | ⟨k,X,aG,z2,I,ac,J,K,⟨D,_⟩ | ⟨D,_⟩⟩
         ·rw[H] at hy';cases hy';exact offersAt_of_not_blocked (Aal (.inl f.run)) _ _
         ·rw[D] at hy';cases hy'
          rw[offersAt_parked_recv,if_neg];rintro rfl;exact aK _ D
         ·rw[D] at hy';cases hy';exact offersAt_of_not_blocked (Aal (.inl rfl)) _ _
        ·exact f.offF omz hy'
       have o:=crowd_waits (P:=P) (sl:=aa) (i:=n0+j) C yFd (λcc ah=>by
        have:cc=scase s.c v z:=by simpa using ah
        subst this
        exact ways_send_none B spz N)
       refine Reach.step (U.trans o) ?_;rw[Ns,Array.append_empty];refine aI _ ?_ _ _ _ _ _ rfl (f.parkJ m s1 C aK e1) W;rw[<-aH,Array.toList_setIfInBounds];exact Ax9 (x:=s.g) (by simpa using C) (Aal (.inl dG.inv.1)) rfl
     ·obtain⟨a,b,B⟩:=id Q
      obtain⟨E,nq,e1,hr,hq⟩:=aw w1 a b hk B;have qm:=s3.trans a8;subst qm;have o:=runT_crowd_go (P:=P) (sl:=aa) (i:=n0+j) C yFd;have hC:Chg (λb=>b=s.c) w1 (w1.shut s.c a b false):=Chg.put w1 s.c _;have aZ:∀l y',l≠0->l≠n0+j->gs[l]?=some y'->woken P s.g E (w1.shut s.c a b false) y'=y':=by
       intro l y' al V hy';have bc:=(Array.getElem?_eq_some_iff.1 hy').1;rcases A70 l n0 with aJ | aJ
       ·obtain⟨q,y2,_,A,R⟩:=f.old l omz aJ
        rw[hy'] at A;cases A;exact woken_quitsD R
       ·obtain⟨k,rfl⟩:∃k,l=n0+k:=⟨l - n0,omz⟩
        have aR:k<x.L.length:=by have:=f.siz;omega
        obtain⟨⟨X,aD,seen⟩,ac⟩:∃e,x.L[k]?=some e:=⟨_,A6j aR⟩
        rcases f.snd k X aD seen ac with⟨s',_,_,_,_,xZ,_,aB,r | ⟨v,z,I,r,_⟩⟩ | ⟨q,y2,_,A,R,_⟩
        ·rw[r] at hy';cases hy';exact woken_run xZ.inv.1
        ·rw[r] at hy';cases hy'
         obtain⟨a2,b2,ax⟩:=aB.chg hC (λe=>V (by rw[f.dist k j s.c _ _ _ _ (e ▸ ac) m]));exact woken_send_open _ _ ax
        ·rw[A] at hy';cases hy'
         exact woken_quitsD (QuitsD.of_quitsIn R)
      have aN:((gs.map (woken P s.g E (w1.shut s.c a b false))).setIfInBounds (n0+j) E).size=gs.size:=spz
      refine Reach.step (U.trans o) (iw _ ⟨n0+j, .inl s, .inr nq,s1,trivial,rfl⟩ _ _ _ _ _ _ rfl (f.close m s1 B hq aN ?_ ?_ ?_ _ _) W)
      ·exact A6u (by simpa using ar)
      ·intro l al V
       rw[Bg V,A8o];cases aV:gs[l]? with
       | none=>rfl
       | some y'=>simp[aZ l y' al V aV]
      ·rw[Bg omz,A8o]
       rcases f.zero with H | ⟨k,X,aG,z2,I,ac,J,K,⟨D,_⟩ | ⟨D,_⟩⟩
       ·refine .inl ⟨by rw[H];simp[woken_run f.run],λz hz=>?_⟩
        rw[H] at hz;have:=congrArg Goroutine.status (A67 hz)
        rw[f.run] at this;cases this
       ·by_cases ah:X=s.c
        ·subst ah
         refine .inr ⟨z2,D,?_⟩;rw[D];simp only[A8q,A65];have aS:(mayWake P s.g && E.status !=.blocked && E.status !=.waiting)=true:=by rw[aQ,hr];rfl
         unfold Conc.woken;rw[if_pos aS];exact again_recv_closed (heap_put B)
        ·refine .inl ⟨?_,λz hz=>?_⟩
         ·rw[D]
          simp only[A8q,A65];have a3:Yn X w1:=by
           rcases f.qt 0 _ D with h | ⟨g2,c2,z3,sh,e,a5⟩ | ⟨g2,c2,v2,z3,sh,e,_⟩
           ·rcases h with h | h<;>cases h
           ·have:=congrArg Goroutine.offers e
            simp[parked,rcase] at this;rw[this.1.1];exact a5
           ·have:=congrArg Goroutine.offers e
            simp[parked,rcase,scase] at this
          obtain⟨a2,b2,ax⟩:=a3.chg hC ah;exact woken_recv_open _ _ ax
         ·rw[D] at hz
          have:=congrArg Goroutine.offers (A67 hz)
          simp[parked,rcase] at this;exact ah this.1
       ·refine .inl ⟨by rw[D];simp only[A8q,A65];exact woken_run rfl,λz hz=>?_⟩
        rw[D] at hz;have:=congrArg Goroutine.status (A67 hz)
        simp[parked] at this
    ·rw[C] at hi
     have:=A67 hi
     rw[<-this] at T;cases T
    ·rw[hi] at A;cases A
     cases q with
     | zero=>rw[show y.status=.finished from R] at T;cases T
     | succ k=>
      rcases R with hf | ⟨_,y',aC,az⟩
      ·rw[hf] at T;cases T
      have Z:=f.slipJ m r az;have o:=runT_crowd_go (P:=P) (sl:=aa) (i:=n0+j) hi (by rw[hi0];exact aC w1);rw[X9 λl y' hl hy'=>(Z.qt l y' yEj).woken] at o;refine Reach.step (U.trans o) ?_;rw[Ns,Array.append_empty];exact iw _ ⟨n0+j, .inr (k+1), .inr k,r,A69 k,rfl⟩ _ _ _ _ _ _ rfl Z W
 exact main comps f.acc _ gs ow w t sl rfl f aj
end
end Go.Co
