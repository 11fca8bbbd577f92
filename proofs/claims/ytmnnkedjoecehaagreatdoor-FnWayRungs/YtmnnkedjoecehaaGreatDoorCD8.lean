import Derived.Test.YtmnnkedjoecehaaGreatDoorCD5
namespace Go.Co
open Go.Conc
section
variable {c j k:Nat}{y':Goroutine}{z:Value}
variable {P : Program}{Low : Nat}{n0 : Nat}{t₀ : Trace}{x : RC}{ow : Nat -> Nat -> Prop}{comps jL : List (SC ⊕ Nat)}{gs gs' : Array Goroutine}{w w' : World}{t u : Trace}
theorem PhI.park0 (h:PhI P Low n0 t₀ x ow comps gs w t){vs:List Value}{s:SC}(m:x.L[j]?=some (c,vs,false))(C:comps[n0+j]?=some (.inl s))(hg:gs[n0+j]?=some s.g)
  (D:stepG P true x.g w=.comm x.g #[rcase c z] true (.recv true) w #[]):PhI P Low n0 t₀ x ow comps (gs.setIfInBounds 0 (parked x.g #[rcase c z] (.recv true))) w t:=by
 have H:=h.pos;have B:0<gs.size:=by have:=(h.lt m).2.1;omega
 refine⟨h.pos,by simpa using h.len,h.c0,by simpa using h.siz,h.run,h.keep, .inr ⟨j,c,vs,z,w,m,h.keep,D, .inl ⟨by simp[B],s,C,by rw[Bd AQ];exact hg⟩⟩,λi hi o=>?_,λk A G seen n=>?_,h.own0,h.ownS,h.chan,h.dist,h.ows,h.low,h.tr⟩
 ·obtain⟨q,y,b,a,d⟩:=h.old i hi o
  exact⟨q,y,b,by rw[Bd AQ];exact a,d⟩
 ·have e:(gs.setIfInBounds 0 (parked x.g #[rcase c z] (.recv true)))[n0+k]?=gs[n0+k]?:=Bd AQ
  rcases h.snd k A G seen n with⟨s,b,a,d,f,r,v,F,E⟩ | ⟨q,y,b,a,d,f⟩
  ·exact .inl ⟨s,b,a,d,f,r,v,F,by rw[e];exact E⟩
  ·exact .inr ⟨q,y,b,by rw[e];exact a,d,f⟩
theorem PhI.parkJ (h:PhI P Low n0 t₀ x ow comps gs w t){I:List Value}{v:Value}{s:SC}(D:x.L[j]?=some (c,I,false))(H:comps[n0+j]?=some (.inl s))(hg:gs[n0+j]?=some s.g)
  (U:∀A,gs[0]?≠some (parked x.g #[rcase c A] (.recv true)))
  (S:stepG P false s.g w=.comm s.g #[scase c v z] true .send w #[]):PhI P Low n0 t₀ x ow comps (gs.setIfInBounds (n0+j) (parked s.g #[scase c v z] .send)) w t:=by
 have V:=h.pos;obtain⟨W,T,X⟩:=h.lt D;refine⟨h.pos,by simpa using h.len,h.c0,by simpa using h.siz,h.run,h.keep,?_,λi hi R=>?_,λk C I seen F=>?_,h.own0,h.ownS,h.chan,h.dist,h.ows,h.low,h.tr⟩
 ·rcases h.zero with h0 | ⟨k,C,J,A,O,a,b,Q,⟨d,M,e,f⟩ | ⟨d,e⟩⟩
  ·exact .inl yFe
  ·have K:k≠j:=by
    rintro rfl;rw[D] at a;cases a;exact U A d
   exact .inr ⟨k,C,J,A,O,a,b,Q, .inl ⟨by rw[Bd AQ];exact d,M,e,by rw[Bd AQ];exact f⟩⟩
  ·exact .inr ⟨k,C,J,A,O,a,b,Q, .inr ⟨by rw[Bd AQ];exact d,e⟩⟩
 ·obtain⟨q,y,m,n,o⟩:=h.old i hi R
  exact⟨q,y,m,by rw[Bd AQ];exact n,o⟩
 ·by_cases K:k=j
  ·subst K
   rw[D] at F;cases F;rcases h.snd k c _ _ D with⟨M,m,n,o,r,G,B,E,N⟩ | ⟨q,y,m,n,o,r⟩
   ·rw[H] at m;cases m
    exact .inl ⟨s,H,n,o,r,G,B,E, .inr ⟨v,z,w,FH T,B,E,S⟩⟩
   ·rw[H] at m;cases m
  ·have e:(gs.setIfInBounds (n0+j) (parked s.g #[scase c v z] .send))[n0+k]?=gs[n0+k]?:=Bd AQ
   rcases h.snd k C I seen F with⟨s,m,n,o,r,G,B,E,N⟩ | ⟨q,y,m,n,o,r⟩
   ·exact .inl ⟨s,m,n,o,r,G,B,E,by rw[e];exact N⟩
   ·exact .inr ⟨q,y,m,by rw[e];exact n,o,r⟩
theorem PhI.close (h:PhI P Low n0 t₀ x ow comps gs w t){s:SC}{g':Goroutine}{n C v:Nat}(o:x.L[j]?=some (c,[],false))(hs:comps[n0+j]?=some (.inl s))(W:w.heap[c]?=some (.chan 0 #[] false C v false))(hq:QuitsIn P n g')
  (Q:gs'.size=gs.size) (hJ:gs'[n0+j]?=some g') (J:∀l,l≠0->l≠n0+j->gs'[l]?=gs[l]?)
  (m:(gs'[0]?=gs[0]?/\∀z,gs[0]?≠some (parked x.g #[rcase c z] (.recv true)))\/∃z,gs[0]?=some (parked x.g #[rcase c z] (.recv true))/\gs'[0]?=some {parked x.g #[rcase c z] (.recv true) with status:=.running}) (fn:FuncId) (pos:String):
  PhI P Low n0 t₀ x ow (comps.set (n0+j) (.inr n)) gs' (w.shut c C v false) (t++MemOp.ofEvents (n0+j) fn pos #[⟨.obj c,false,true⟩,⟨.obj c,true,true⟩]):=by
 have hn:=h.pos;obtain⟨hj,ag,X⟩:=h.lt o;have H:EP (λb=>b=c) w (w.shut c C v false):=EP.put w c _;have T:JL c (w.shut c C v false):=⟨C,v,heap_put W⟩
 obtain⟨Y,hO⟩:=h.part (S:=λb=>b=c) (k:=0) (by rintro b rfl;exact(h.chan j _ _ _ o).1);have ac:∀b,x.O b->b<w.heap.size/\¬b=c:=λb F=>⟨h.ows.up _ _ (h.own0 b F),λe=>(h.chan j _ _ _ o).2 (e ▸ F)⟩
 have U:(w.shut c C v false).heap.size=w.heap.size:=by simp[World.shut]
 obtain⟨ae,aa⟩:=h.tr.close (k:=n0+j) (c:=c) h.ows ⟨j,hj,rfl⟩ fn pos;refine⟨h.pos,by rw[Q];simpa using h.len,by rw[CY AQ];exact h.c0,by rw[Q];exact h.siz,h.run,h.keep.chg H ac Y,?_,λi hi Z=>?_,λk A af seen G=>?_,h.own0,λk D B b F=>?_,h.chan,h.dist,by rw[U];exact h.ows,by rw[U];exact h.low,ae⟩
 ·rcases h.zero with V | ⟨k,A,R,E,M,a,b,N,⟨d,D,e,f⟩ | ⟨d,e⟩⟩
  ·rcases m with⟨m,_⟩ | ⟨z,m,_⟩
   ·exact .inl (by rw[m];exact V)
   ·rw[V] at m
    have:=congrArg Goroutine.status (DG m)
    rw[h.run] at this;cases this
  ·by_cases r:k=j
   ·subst r
    rw[o] at a;cases a;rcases m with⟨_,m⟩ | ⟨z,m,I⟩
    ·exact absurd d (m E)
    ·rw[d] at m
     have hz:E=z:=by
      have:=congrArg Goroutine.offers (DG m)
      simp[parked,rcase] at this;exact this
     subst hz;exact .inr ⟨k,c,[],E,M,o,b,N, .inr ⟨I,T⟩⟩
   ·have K:A≠c:=λe=>r (h.dist k j c _ _ _ _ (e ▸ a) o)
    rcases m with⟨m,_⟩ | ⟨z,m,I⟩
    ·exact .inr ⟨k,A,R,E,M,a,b,N, .inl ⟨by rw[m];exact d,D,by rw[CY AQ];exact e,by rw[J _ AQ AQ];exact f⟩⟩
    ·rw[d] at m
     have:=congrArg Goroutine.offers (DG m)
     simp[parked,rcase] at this;exact absurd this.1 K
  ·rcases m with⟨m,_⟩ | ⟨z,m,I⟩
   ·have r:k≠j:=by
     rintro rfl;rw[o] at a;cases a;obtain⟨a1,a2,e⟩:=e;rw[W] at e;cases e
    have K:¬A=c:=λe=>r (h.dist k j c _ _ _ _ (e ▸ a) o)
    exact .inr ⟨k,A,R,E,M,a,b,N, .inr ⟨by rw[m];exact d,e.chg H K⟩⟩
   ·rw[d] at m
    have:=congrArg Goroutine.status (DG m)
    simp[parked] at this
 ·obtain⟨q,y,h1,h2,h3⟩:=h.old i hi Z
  exact⟨q,y,by rw[CY AQ];exact h1,by rw[J _ AQ AQ];exact h2,I6 h3 (Md AQ)⟩
 ·by_cases r:k=j
  ·subst r
   rw[o] at G;cases G;exact .inr ⟨n,g',Dm X,hJ,hq,rfl,T,aa,λe=>by cases e⟩
  ·exact(h.snd k A af seen G).turn (CY AQ) (J _ AQ AQ) H (λD B=>hO (n0+k) D.O AQ (h.ownS k D B)) Y (λe=>r (h.dist k j c _ _ _ _ (e ▸ G) o)) (λop ab e=>absurd e (Md AQ op ab))
 ·by_cases r:k=j
  ·subst r
   rw[Dm X] at B;cases B
  ·rw[CY AQ] at B
   exact h.ownS k D B b F
theorem PhI.slipOld (h:PhI P Low n0 t₀ x ow comps gs w t){i:Nat}{es:Array Event}(hi:0<i)(V:i<n0)(K:∀e∈es,Event.mute e=true)(G:QuitsD P k (deafBehind (Deaf t i) es) y')(fn:FuncId)(pos:String):
  PhI P Low n0 t₀ x ow (comps.set i (.inr k)) (gs.setIfInBounds i y') w (t++MemOp.ofEvents i fn pos es):=by
 have W:=h.siz;have X:=h.len;have N:Tr Low n0 x.L.length t₀ (t++MemOp.ofEvents i fn pos es) ow:=h.tr.silent λop s=>by
  obtain⟨e,I,rfl⟩:=Go.Conc.mem_ofEvents s;exact⟨touch_mute (K e I),λo=>by rcases o with o | o<;>(simp at o;omega)⟩
 obtain⟨R,M⟩:=h.part (S:=λ_=>False) (k:=0) (λb r=>r.elim);refine⟨h.pos,by simpa using h.len,by rw[CY AQ];exact h.c0,by simpa using h.siz,h.run,h.keep,?_,λl T Q=>?_,λl m U seen D=>?_,h.own0,λl g n b r=>?_,h.chan,h.dist,h.ows,h.low,N⟩
 ·rcases h.zero with h0 | ⟨k,m,v,A,B,a,b,C,⟨d,g,e,f⟩ | ⟨d,e⟩⟩
  ·exact .inl yFe
  ·exact .inr ⟨k,m,v,A,B,a,b,C, .inl ⟨by rw[Bd AQ];exact d,g,by rw[CY AQ];exact e,by rw[Bd AQ];exact f⟩⟩
  ·exact .inr ⟨k,m,v,A,B,a,b,C, .inr ⟨by rw[Bd AQ];exact d,e⟩⟩
 ·by_cases F:i=l
  ·subst F
   exact⟨k,y',Dm AQ,FH AQ,by rw[Deaf_own];exact G⟩
  ·obtain⟨q,y,H,E,J⟩:=h.old l T Q
   exact⟨q,y,by rw[CY AQ];exact H,by rw[Bd AQ];exact E,I6 J (Md AQ)⟩
 ·exact(h.snd l m U seen D).turn (CY AQ) (Bd AQ) (EP.same w) (λg n=>M (n0+l) g.O (by have:=h.pos;omega) (h.ownS l g n)) R id (λop s e=>absurd e (Md AQ op s))
 ·rw[CY AQ] at n
  exact h.ownS l g n b r
theorem PhI.slipJ (h:PhI P Low n0 t₀ x ow comps gs w t){q:Nat}{e:Nat × List Value × Bool}(S:x.L[j]?=some e)(F:comps[n0+j]?=some (.inr q))(R:QuitsIn P k y'):
  PhI P Low n0 t₀ x ow (comps.set (n0+j) (.inr k)) (gs.setIfInBounds (n0+j) y') w t:=by
 have Y:=h.pos;obtain⟨Z,U,G⟩:=h.lt S;refine⟨h.pos,by simpa using h.len,by rw[CY AQ];exact h.c0,by simpa using h.siz,h.run,h.keep,?_,λl X V=>?_,λl o K seen C=>?_,h.own0,λl B v b N=>?_,h.chan,h.dist,h.ows,h.low,h.tr⟩
 ·rcases h.zero with h0 | ⟨k,o,D,E,H,a,b,J,⟨d,B,e,f⟩ | ⟨d,e⟩⟩
  ·exact .inl yFe
  ·have aa:k≠j:=by
    rintro rfl;rw[F] at e;cases e
   exact .inr ⟨k,o,D,E,H,a,b,J, .inl ⟨by rw[Bd AQ];exact d,B,by rw[CY AQ];exact e,by rw[Bd AQ];exact f⟩⟩
  ·exact .inr ⟨k,o,D,E,H,a,b,J, .inr ⟨by rw[Bd AQ];exact d,e⟩⟩
 ·obtain⟨q,y,g,m,n⟩:=h.old l X V
  exact⟨q,y,by rw[CY AQ];exact g,by rw[Bd AQ];exact m,n⟩
 ·by_cases A:l=j
  ·subst A
   rcases h.snd l o K seen C with⟨s,g,_⟩ | ⟨q,y,g,m,n,r⟩
   ·rw[F] at g;cases g
   ·exact .inr ⟨k,y',Dm G,FH U,R,r⟩
  ·have I:(comps.set (n0+j) (.inr k))[n0+l]?=comps[n0+l]?:=CY AQ
   have M:(gs.setIfInBounds (n0+j) y')[n0+l]?=gs[n0+l]?:=Bd AQ;rcases h.snd l o K seen C with⟨s,g,m,n,r,O,Q,W,T⟩ | ⟨q,y,g,m,n,r⟩
   ·exact .inl ⟨s,by rw[I];exact g,m,n,r,O,Q,W,by rw[M];exact T⟩
   ·exact .inr ⟨q,y,by rw[I];exact g,by rw[M];exact m,n,r⟩
 ·by_cases A:l=j
  ·subst A
   rw[Dm G] at v;cases v
  ·rw[CY AQ] at v
   exact h.ownS l B v b N
end
section
variable {c i j l:Nat}{y:Goroutine}
variable {P : Program}{Low : Nat}{n0 : Nat}{t₀ : Trace}{x : RC}{ow : Nat -> Nat -> Prop}{comps : List (SC ⊕ Nat)}{gs : Array Goroutine}{w : World}{t : Trace}{sl : Option (Nat × Nat)}
def Reach (P:Program)(Stop:Goroutine->World->Prop)(tape:Nat->Question->Nat)(gs:Array Goroutine)(w:World)(sl:Option (Nat × Nat))(t:Trace):Prop:=
 ∃N gs' b w' d a,runNT P N (crowd gs w sl) t=(.next (crowd gs' w' d),a)/\LD P gs' a b/\w'.tape=tape/\Stop b w'
theorem Reach.step {Stop:Goroutine->World->Prop}{tape:Nat->Question->Nat}{b:Array Goroutine}{w1:World}{a:Option (Nat × Nat)}{ops:Trace}(o:stepT P (crowd gs w sl)=(.next (crowd b w1 a),ops))(h:Reach P Stop tape b w1 a (t++ops)):Reach P Stop tape gs w sl t:=by
 obtain⟨N,gs',m,w',n,f,g,hF,d,e⟩:=h;exact⟨N+1,gs',m,w',n,f,by simp only[runNT,o];exact g,hF,d,e⟩
theorem E9 (h:y.status=.running\/y.status=.finished):y.status≠.blocked:=by rcases h with h | h<;>rw[h]<;>simp
theorem PhI.offT (h:PhI P Low n0 t₀ x ow comps gs w t){vs:List Value}{B:Bool}(D:x.L[j]?=some (c,vs,B))(hl:l≠n0+j)(a:gs[l]?=some y):offersAt y c true=[]:=by
 have G:=(Array.getElem?_eq_some_iff.1 a).1;rcases KG l with rfl | C
 ·rcases h.zero with b | ⟨k,o,vs,z,E,_,_,_,⟨b,_⟩ | ⟨b,_⟩⟩
  ·rw[b] at a;cases a;exact offersAt_of_not_blocked (E9 (.inl h.run)) _ _
  ·rw[b] at a;cases a;exact offersAt_parked_recv' _ _ _ _ _
  ·rw[b] at a;cases a;exact offersAt_of_not_blocked (E9 (.inl rfl)) _ _
 ·rcases E4 l n0 with n | n
  ·obtain⟨q,y',_,d,g⟩:=h.old l C n
   rw[a] at d;cases d;exact offersAt_of_not_blocked (E9 g.status) _ _
  ·obtain⟨k,rfl⟩:∃k,l=n0+k:=⟨l - n0,AQ⟩
   have A:k<x.L.length:=by have:=h.siz;omega
   obtain⟨⟨o,F,seen⟩,m⟩:∃e,x.L[k]?=some e:=⟨_,DW A⟩
   rcases h.snd k o F seen m with⟨s,_,_,_,_,r,_,H,f | ⟨v,z,E,f,_⟩⟩ | ⟨q,y',_,d,g,_⟩
   ·rw[f] at a;cases a;exact offersAt_of_not_blocked (E9 (.inl r.inv.1)) _ _
   ·rw[f] at a;cases a
    rw[offersAt_parked_send,if_neg];rintro rfl;exact hl (by rw[h.dist k j _ _ _ _ _ m D])
   ·rw[d] at a;cases a;exact offersAt_of_not_blocked (E9 g.status) _ _
theorem PhI.offF (h:PhI P Low n0 t₀ x ow comps gs w t)(hl:l≠0)(a:gs[l]?=some y):offersAt y c false=[]:=by
 have B:=(Array.getElem?_eq_some_iff.1 a).1;rcases E4 l n0 with g | g
 ·obtain⟨q,y',_,b,f⟩:=h.old l AQ g
  rw[a] at b;cases b;exact offersAt_of_not_blocked (E9 f.status) _ _
 ·obtain⟨k,rfl⟩:∃k,l=n0+k:=⟨l - n0,AQ⟩
  have r:k<x.L.length:=by have:=h.siz;omega
  obtain⟨⟨o,A,seen⟩,m⟩:∃e,x.L[k]?=some e:=⟨_,DW r⟩
  rcases h.snd k o A seen m with⟨s,_,_,_,_,n,_,D,d | ⟨v,z,C,d,_⟩⟩ | ⟨q,y',_,b,f,_⟩
  ·rw[d] at a;cases a;exact offersAt_of_not_blocked (E9 (.inl n.inv.1)) _ _
  ·rw[d] at a;cases a;exact offersAt_parked_send' _ _ _ _ _ _
  ·rw[b] at a;cases a;exact offersAt_of_not_blocked (E9 f.status) _ _
theorem PG {b:Bool}(h:∀l y,l≠i->gs[l]?=some y->offersAt y c b=[]):partners (gs.setIfInBounds i ph) c b=[]:=by
 refine partners_nil λl y a=>?_
 rcases getElem?_stand gs i l y a with⟨_,rfl⟩ | ⟨d,e⟩
 ·exact offersAt_ph _ _
 ·exact h l y d e
theorem Zs {b:Bool}{g:Goroutine}(a:j≠i)(e:gs[j]?=some g)(m:offersAt g c b=[0])(h:∀l y,l≠i->l≠j->gs[l]?=some y->offersAt y c b=[]):partners (gs.setIfInBounds i ph) c b=[(j,0)]:=by
 rw[partners_one (stand_get a e) λl y n d=>?_,m]
 ·rfl
 ·rcases getElem?_stand gs i l y d with⟨_,rfl⟩ | ⟨f,o⟩
  ·exact offersAt_ph _ _
  ·exact h l y f n o
theorem PhI.ends (h:PhI P Low n0 t₀ x ow comps gs w t)(G:∀e∈x.L,e.2.2=true):LD P gs t x.g:=by
 have C:∀(j c:Nat) (r:List Value) (b:Bool),x.L[j]?=some (c,r,b)->b=true:=λj c r b F=>G _ (Hv F)
 have hS:∀j,j<x.L.length->∃q y,gs[n0+j]?=some y/\QuitsIn P q y/\JF t (n0+j):=by
  intro j n;obtain⟨⟨B,I,seen⟩,A⟩:∃e,x.L[j]?=some e:=⟨_,DW n⟩
  obtain rfl:=C _ _ _ _ A;rcases h.snd j B I true A with⟨s,_,_,_,e,_⟩ | ⟨q,y',_,d,m,_,_,_,H⟩
  ·cases e
  ·exact⟨q,y',d,m,H rfl⟩
 refine⟨?_,?_,h.tr.past λj n=>(hS j n).choose_spec.choose_spec.2.2⟩
 ·rcases h.zero with E | ⟨k,B,r,z,J,a,_⟩
  ·exact E
  ·have:=C _ _ _ _ a;cases this
 ·have D:∀i,0<i->i<gs.size->∃q,∀y,gs[i]?=some y->QuitsD P q (Deaf t i) y:=by
   intro i hi v;rcases E4 i n0 with o | o
   ·obtain⟨q,y',_,d,m⟩:=h.old i hi o
    exact⟨q,λy f=>by rw[f] at d;cases d;exact m⟩
   ·obtain⟨k,rfl⟩:∃k,i=n0+k:=⟨i - n0,AQ⟩
    obtain⟨q,y',d,m,_⟩:=hS k (by have:=h.siz;omega);exact⟨q,λy f=>by rw[f] at d;cases d;rw[h.tr.hearS _ o];exact QuitsD.of_quitsIn m⟩
  classical
  refine⟨λi=>if hi:0<i/\i<gs.size then(D i hi.1 hi.2).choose else 0,λi y hi f=>?_,λj n=>h.tr.hearS j (by have:=h.siz;omega)⟩;have v:=(Array.getElem?_eq_some_iff.1 f).1;simp only[hi,v,and_self,dite_true];exact(D i hi v).choose_spec y f
end
section
variable {P : Program}{Low : Nat}{n0 : Nat}{t₀ : Trace}{Stop : Goroutine -> World -> Prop}
theorem yx {g:Goroutine}{cs:Array CommCase}{sh:CommShape}(hr:g.status=.running)(w:World):stepG P true {parked g cs sh with status:=.running} w=stepG P true g w:=by
 rw[stepG_tries];congr 1;obtain⟨a,b,c,d⟩:=g;simp at hr;subst hr;rfl
theorem pushes {t:Trace}{fn e:FuncId}{pos d:String}{k l:Nat}{a b:MemAct}:t++((MemOp.ofEvents k fn pos #[]).push {g:=k,fn,pos,act:=a}).push {g:=l,fn:=e,pos:=d,act:=b}=t++#[{g:=k,fn,pos,act:=a},{g:=l,fn:=e,pos:=d,act:=b}]:=by
 rw[ofEvents_eq];simp
theorem Pe (k:Nat)(fn:FuncId)(pos:String):MemOp.ofEvents k fn pos #[]=#[]:=by rw[ofEvents_eq];simp
theorem phase (tape:Nat->Question->Nat){x:RC}(h:EM P Low Stop x):
  ∀ow comps gs w t sl,PhI P Low n0 t₀ x ow comps gs w t->w.tape=tape->Reach P Stop tape gs w sl t:=by
 refine h (λx=>∀ow comps gs w t sl,PhI P Low n0 t₀ x ow comps gs w t->w.tape=tape->Reach P Stop tape gs w sl t) ?_;intro x hx ow comps gs w t sl f al;have main:∀comps,Acc (RL (LL P Low)) comps->∀(n:Nat) (gs:Array Goroutine) (ow:Nat->Nat->Prop) (w:World) (t:Trace) (sl:Option (Nat × Nat)),cnt gs.toList=n->PhI P Low n0 t₀ x ow comps gs w t->w.tape=tape->Reach P Stop tape gs w sl t:=by
  intro comps aT;induction aT with
  | intro comps _ ve=>
  intro n;induction n using Nat.strongRecOn with
  | ind n aL=>
  intro gs ow w t sl aH f al;by_cases ax:(∀e∈x.L,e.2.2=true)/\∀aI,Keep Low x.O x.w aI->Stop x.g aI
  ·exact⟨0,gs,x.g,w,sl,t,rfl,f.ends ax.1,al,ax.2 w f.keep⟩
  have hn:=f.pos
  obtain⟨i,y,d,aa,hi,U,R⟩:=crowd_pick (P:=P) (w:=w) (sl:=sl) (λg A=>by
   obtain⟨i,hi⟩:=Array.mem_iff_getElem?.1 A
   exact(f.qt i g hi).awake) f.runs
  replace f:=f.at d;have S:(w.at d).tape=tape:=al;generalize w.at d=w1 at f R S;clear al;have ao:=(Array.getElem?_eq_some_iff.1 hi).1;have a8:∀(l:Nat) (g:Goroutine),(gs.setIfInBounds l g).size=gs.size:=λl g=>by simp
  have closed:∀(j c:Nat) (H:List Value) (z:Value) (q:Nat),i=0->x.L[j]?=some (c,H,false)->stepG P true y w1=.comm x.g #[rcase c z] true (.recv true) w1 #[]->comps[n0+j]?=some (.inr q)->
    ((∀v V,H=v::V->∀ow comps gs w t sl,PhI P Low n0 t₀ ⟨x.O,x.L.set j (c,V,false),Conc.served x.g (recvd true v true),w1⟩ ow comps gs w t->w.tape=tape->Reach P Stop tape gs w sl t)/\
     (H=[]->∀ow comps gs w t sl,PhI P Low n0 t₀ ⟨x.O,x.L.set j (c,[],true),Conc.served x.g (recvd true z false),w1⟩ ow comps gs w t->w.tape=tape->Reach P Stop tape gs w sl t))->Reach P Stop tape gs w sl t:=by
   intro j c H z q hi0 m e1 hq J;subst hi0;have ak:H=[]/\JL c w1/\∀y',gs[n0+j]?=some y'->y'.status≠.blocked:=by
    rcases f.snd j c H false m with⟨s',r,_⟩ | ⟨q,y,r,B,T,h4,h5,_⟩
    ·rw[hq] at r;cases r
    ·exact⟨h4,h5,λy' hy'=>by rw[hy'] at B;cases B;exact E9 T.status⟩
   obtain⟨ak,⟨a,b,C⟩,aP⟩:=ak;have Q:partners (gs.setIfInBounds 0 ph) c true=[]:=PG λl y' hl hy'=>by
    by_cases W:l=n0+j
    ·subst W;exact offersAt_of_not_blocked (aP y' hy') _ _
    ·exact f.offT m W hy'
   have o:=crowd_recv_closed (P:=P) (sl:=aa) (i:=0) hi (show stepG P (0==0) y w1=_ from e1) C Q;rw[finishComm_recv,Pe,Array.empty_append] at o;refine Reach.step (R.trans o) (J.2 ak _ _ _ _ _ _ (f.seen m hq rfl (a8 _ _) (by simp[ao]) (λl hl=>Bd hl) _ _) S)
  rcases KG i with rfl | aE
  ·rcases f.zero with F | ⟨j,c,H,z,I,m,M,K,⟨Q,_⟩ | ⟨Q,aU⟩⟩
   ·obtain rfl:y=x.g:=by rw[F] at hi;exact(DG hi).symm
    rcases hx.2 with a3 | af | ⟨c,C,aj⟩ | ⟨j,c,H,z,m,ac⟩
    ·exact absurd a3 ax
    ·obtain⟨E,w',es,e1,hr,hS,J⟩:=af w1 f.keep
     have Y:=f.own0' F hr hS x.g.frame.fn x.g.frame.place;have o:=runT_crowd_go (P:=P) (sl:=aa) (i:=0) F (show stepG P (0==0) x.g w1=_ from e1);rw[Zr λl y' hl hy'=>(Y.qt l y' yFf).woken] at o;exact Reach.step (R.trans o) (J _ _ _ _ _ _ Y (hS.tape.trans S))
    ·obtain⟨E,child,H,e1,hr,ac,N,hS,J⟩:=aj w1 f.keep
     have o:=runT_crowd_spawn (P:=P) (sl:=aa) (i:=0) F (show stepG P (0==0) x.g w1=_ from e1);refine Reach.step (R.trans o) ?_;rw[pushes];exact J _ _ _ _ _ _ (f.spawn F C hr N hS _ _ _ _) S
    ·obtain⟨e1,J⟩:=ac w1 f.keep
     have aW:=(f.lt m).2.1;rcases f.snd j c H false m with⟨s,s1,s2,s3,_,dM,hk,N,A | ⟨v,Z,I,A,M,ap,K⟩⟩ | ⟨q,y,r,B,T,h4,h5,_⟩
     ·
      obtain⟨a,b,C⟩:=N;have Q:partners (gs.setIfInBounds 0 ph) c true=[]:=PG λl y' hl hy'=>by
       by_cases W:l=n0+j
       ·subst W;rw[A] at hy';cases hy';exact offersAt_of_not_blocked (E9 (.inl dM.inv.1)) _ _
       ·exact f.offT m W hy'
      have o:=crowd_waits (P:=P) (sl:=aa) (i:=0) F (show stepG P (0==0) x.g w1=_ from e1) (λcc ag=>by
       have:cc=rcase c z:=by simpa using ag
       subst this
       exact ways_recv_none C Q)
      refine Reach.step (R.trans o) ?_;rw[Pe,Array.append_empty];refine aL _ ?_ _ _ _ _ _ rfl (f.park0 m s1 A e1) S;rw[<-aH,Array.toList_setIfInBounds];exact RZ (x:=x.g) (by simpa using F) (E9 (.inl f.run)) rfl
     ·
      obtain⟨a,b,C⟩:=N;have aN:∃V,s.vs=v::V/\(∃z,stepG P false s.g w1=.comm s.g #[scase s.c v z] true .send w1 #[])/\D4 P Low ⟨s.c,s.O,V,Conc.served s.g undef,w1⟩:=by
       subst s2;rcases dM.inv.2 with az | ⟨v',V,e,aC⟩ | ⟨_,_,aw⟩
       ·obtain⟨E,w',es,G,_⟩:=az I M ap
        rw[K] at G;cases G
       ·obtain⟨⟨z2,G⟩,_⟩:=aC I M ap
        rw[K] at G;have:v'=v:=by
         have:=congrArg (λs=>match s with | GStep.comm _ cs _ _ _ _=>cs.toList.map CommCase.send | _=>[]) G
         simp[scase] at this;exact this.symm
        subst this;exact⟨V,e,(aC w1 hk ⟨a,b,C⟩).1,(aC w1 hk ⟨a,b,C⟩).2⟩
       ·obtain⟨a',b',ar⟩:=ap
        obtain⟨E,n',G,_⟩:=aw I a' b' M ar;rw[K] at G;cases G
      obtain⟨V,ak,⟨z2,G⟩,bb⟩:=aN;have oZ:=s3.trans ak;have aF:n0+j≠0:=AQ
      have Q:=Zs aF A (by rw[offersAt_parked_send,if_pos rfl]) λl y' hl W hy'=>f.offT m W hy'
      have o:=crowd_recv_meets (P:=P) (sl:=aa) (i:=0) F (show stepG P (0==0) x.g w1=_ from e1) C aF A Q;rw[finishComm_recv,finishComm_send,Pe,Array.empty_append] at o;refine Reach.step (R.trans o) (J.1 v V oZ _ _ _ _ _ _ (f.meet (oZ ▸ m) s1 bb rfl AU ?_ ?_ ?_ ?_) S)
      ·simp[ao]
      ·rw[Bd AQ];exact FH aW
      ·intro l r B;rw[Bd r,Bd B]
      ·intro op ai
       simp at ai;rcases ai with rfl | rfl | rfl | rfl<;>simp[MemAct.touch?]
     ·exact closed j c H z q rfl m e1 r J
   ·rw[Q] at hi
    have:=DG hi
    rw[<-this] at U;cases U
   ·have aX:y={parked x.g #[rcase c z] (.recv true) with status:=.running}:=by rw[Q] at hi;exact(DG hi).symm
    have ba:stepG P true y w1=stepG P true x.g w1:=by rw[aX];exact yx f.run w1
    obtain⟨q,hq⟩:∃q,comps[n0+j]?=some (.inr q):=by
     rcases f.snd j c H false m with⟨s,s1,s2,s3,_,dM,hk,⟨a,b,N⟩,_⟩ | ⟨q,y,r,_⟩
     ·obtain⟨a',b',ar⟩:=aU
      rw[N] at ar;cases ar
     ·exact⟨q,r⟩
    rcases hx.2 with⟨aD,_⟩ | af | ⟨c,C,aj⟩ | ⟨j',X,V,Z,ah,ac⟩
    ·have:=aD _ (Hv m);cases this
    ·obtain⟨E,w',es,e1,_⟩:=af I M
     rw[K] at e1;cases e1
    ·obtain⟨E,child,H,e1,_⟩:=aj I M
     rw[K] at e1;cases e1
    ·have G:=(ac I M).1
     rw[K] at G;have:c=X/\z=Z:=by
      have:=congrArg (λs=>match s with | GStep.comm _ cs _ _ _ _=>cs.toList | _=>[]) G
      simp[rcase] at this;exact this
     obtain⟨rfl,rfl⟩:=this;obtain rfl:=f.dist j j' c _ _ _ _ m ah;rw[m] at ah;cases ah;obtain⟨e1,J⟩:=ac w1 f.keep;exact closed j c H z q rfl m (ba.trans e1) hq J
  ·have hi0:(i==0)=false:=by simp;omega
   rcases E4 i n0 with av | av
   ·
    obtain⟨q,y',r,B,T⟩:=f.old i aE av;rw[hi] at B;cases B;cases q with
    | zero=>rw[T.1] at U;cases U
    | succ k=>
     rcases T with⟨hf,_⟩ | ⟨_,y',es,hm,aA,au⟩
     ·rw[hf] at U;cases U
     have Y:=f.slipOld aE av hm au y.frame.fn y.frame.place;have o:=runT_crowd_go (P:=P) (sl:=aa) (i:=i) hi (by rw[hi0];exact aA w1);rw[Zr λl y' hl hy'=>(Y.qt l y' yFf).woken] at o;exact Reach.step (R.trans o) (ve _ ⟨i, .inr (k+1), .inr k,r,DV k,rfl⟩ _ _ _ _ _ _ rfl Y S)
   ·obtain⟨j,rfl⟩:∃j,i=n0+j:=⟨i - n0,AQ⟩
    have hj:j<x.L.length:=by have:=f.siz;omega
    obtain⟨⟨c,aB,seen⟩,m⟩:∃e,x.L[j]?=some e:=⟨_,DW hj⟩
    rcases f.snd j c aB seen m with⟨s,s1,s2,s3,s4,dM,hk,N,A | ⟨v,Z,I,A,M,ap,K⟩⟩ | ⟨q,y',r,B,T,h4,h5,_⟩
    ·obtain rfl:y=s.g:=by rw[A] at hi;exact(DG hi).symm
     subst s2 s4;rcases dM.inv.2 with af | ⟨v,V,e,hv⟩ | ⟨a6,aQ,aw⟩
     ·obtain⟨E,w',es,e1,hr,hS,J⟩:=af w1 hk N
      have Y:=f.ownJ hj s1 A hr hS J s.g.frame.fn s.g.frame.place;have o:=runT_crowd_go (P:=P) (sl:=aa) (i:=n0+j) A yGc;rw[Zr λl y' hl hy'=>(Y.qt l y' yFf).woken] at o;refine Reach.step (R.trans o) (ve _ ⟨n0+j,_,_,s1,?_,rfl⟩ _ _ _ _ _ _ rfl Y (hS.tape.trans S));refine⟨w1,hk,N, .inl ⟨E,w',es,e1,N.chg hS.chg λhb=>?_,rfl⟩⟩;have:=f.ows.apart _ _ _ (f.chan j _ _ _ m).1 (f.ownS j s s1 _ hb)
      omega
     ·obtain⟨⟨z,e1⟩,J⟩:=hv w1 hk N
      obtain⟨a,b,C⟩:=id N;by_cases aJ:∃Z,gs[0]?=some (parked x.g #[rcase s.c Z] (.recv true))
      ·obtain⟨Z,ae⟩:=aJ
       have Q:partners (gs.setIfInBounds (n0+j) ph) s.c false=[(0,0)]:=Zs AQ ae (by rw[offersAt_parked_recv,if_pos rfl]) λl y' hl an hy'=>f.offF an hy'
       have o:=crowd_send_meets (P:=P) (sl:=aa) (i:=n0+j) (j:=0) A yGc C AQ ae Q;rw[finishComm_recv,finishComm_send,Pe,Array.empty_append] at o;rcases f.zero with F | ⟨k,X,aM,z2,I,ab,M,K,⟨D,_⟩ | ⟨D,_⟩⟩
       ·rw[F] at ae
        have:=congrArg Goroutine.status (DG ae)
        rw[f.run] at this;cases this
       ·rw[D] at ae
        have aV:X=s.c/\z2=Z:=by
         have:=congrArg Goroutine.offers (DG ae)
         simp[parked,rcase] at this;exact this
        obtain⟨rfl,rfl⟩:=aV;obtain rfl:=f.dist k j s.c _ _ _ _ ab m;rw[m] at ab;cases ab;rcases hx.2 with⟨aD,_⟩ | af | ⟨c,C,aj⟩ | ⟨j',X,bf,z3,ah,ac⟩
        ·have:=aD _ (Hv m);cases this
        ·obtain⟨E,w',es,e1,_⟩:=af I M
         rw[K] at e1;cases e1
        ·obtain⟨E,child,H,e1,_⟩:=aj I M
         rw[K] at e1;cases e1
        ·have G:=(ac I M).1
         rw[K] at G;have:s.c=X:=by
          have:=congrArg (λs=>match s with | GStep.comm _ cs _ _ _ _=>cs.toList | _=>[]) G
          simp[rcase] at this;exact this.1
         subst this;obtain rfl:=f.dist k j' s.c _ _ _ _ m ah;rw[m] at ah;cases ah;have oZ:=s3.trans e;refine Reach.step (R.trans o) ((ac w1 f.keep).2.1 v V oZ _ _ _ _ _ _ (f.meet (oZ ▸ m) s1 J rfl AU ?_ ?_ ?_ ?_) S)
         ·rw[Bd AQ];exact FH AQ
         ·exact FH (by simpa using ao)
         ·intro l r B;rw[Bd B,Bd r]
         ·intro op ai
          simp at ai;rcases ai with rfl | rfl | rfl | rfl<;>simp[MemAct.touch?]
       ·rw[D] at ae
        have:=congrArg Goroutine.status (DG ae)
        simp[parked] at this
      ·have aK:∀Z,gs[0]?≠some (parked x.g #[rcase s.c Z] (.recv true)):=λZ hz=>aJ ⟨Z,hz⟩
       have Q:partners (gs.setIfInBounds (n0+j) ph) s.c false=[]:=PG λl y' hl hy'=>by
        rcases KG l with rfl | an
        ·rcases f.zero with F | ⟨k,X,aM,z2,I,ab,M,K,⟨D,_⟩ | ⟨D,_⟩⟩
         ·rw[F] at hy';cases hy';exact offersAt_of_not_blocked (E9 (.inl f.run)) _ _
         ·rw[D] at hy';cases hy'
          rw[offersAt_parked_recv,if_neg];rintro rfl;exact aK _ D
         ·rw[D] at hy';cases hy';exact offersAt_of_not_blocked (E9 (.inl rfl)) _ _
        ·exact f.offF AQ hy'
       have o:=crowd_waits (P:=P) (sl:=aa) (i:=n0+j) A yGc (λcc ag=>by
        have:cc=scase s.c v z:=by simpa using ag
        subst this
        exact ways_send_none C AU Q)
       refine Reach.step (R.trans o) ?_;rw[Pe,Array.append_empty];refine aL _ ?_ _ _ _ _ _ rfl (f.parkJ m s1 A aK e1) S;rw[<-aH,Array.toList_setIfInBounds];exact RZ (x:=s.g) (by simpa using A) (E9 (.inl dM.inv.1)) rfl
     ·obtain⟨a,b,C⟩:=id N
      obtain⟨E,nq,e1,hr,hq⟩:=aw w1 a b hk C;have aY:=s3.trans a6;subst aY;have o:=runT_crowd_go (P:=P) (sl:=aa) (i:=n0+j) A yGc;have hC:EP (λb=>b=s.c) w1 (w1.shut s.c a b false):=EP.put w1 s.c _;have aS:∀l y',l≠0->l≠n0+j->gs[l]?=some y'->woken P s.g E (w1.shut s.c a b false) y'=y':=by
       intro l y' an W hy';have bc:=(Array.getElem?_eq_some_iff.1 hy').1;rcases E4 l n0 with aG | aG
       ·obtain⟨q,y2,_,B,T⟩:=f.old l AQ aG
        rw[hy'] at B;cases B;exact woken_quitsD T
       ·obtain⟨k,rfl⟩:∃k,l=n0+k:=⟨l - n0,AQ⟩
        have aZ:k<x.L.length:=by have:=f.siz;omega
        obtain⟨⟨X,aB,seen⟩,ab⟩:∃e,x.L[k]?=some e:=⟨_,DW aZ⟩
        rcases f.snd k X aB seen ab with⟨s',_,_,_,_,di,_,az,r | ⟨v,z,I,r,_⟩⟩ | ⟨q,y2,_,B,T,_⟩
        ·rw[r] at hy';cases hy';exact woken_run di.inv.1
        ·rw[r] at hy';cases hy'
         obtain⟨a2,b2,ay⟩:=az.chg hC (λe=>W (by rw[f.dist k j s.c _ _ _ _ (e ▸ ab) m]));exact woken_send_open _ _ ay
        ·rw[B] at hy';cases hy'
         exact woken_quitsD (QuitsD.of_quitsIn T)
      have aO:((gs.map (woken P s.g E (w1.shut s.c a b false))).setIfInBounds (n0+j) E).size=gs.size:=AU
      refine Reach.step (R.trans o) (ve _ ⟨n0+j, .inl s, .inr nq,s1,trivial,rfl⟩ _ _ _ _ _ _ rfl (f.close m s1 C hq aO ?_ ?_ ?_ _ _) S)
      ·exact FH (by simpa using ao)
      ·intro l an W
       rw[Bd W,K9];cases a9:gs[l]? with
       | none=>rfl
       | some y'=>simp[aS l y' an W a9]
      ·rw[Bd AQ,K9]
       rcases f.zero with F | ⟨k,X,aM,z2,I,ab,M,K,⟨D,_⟩ | ⟨D,_⟩⟩
       ·refine .inl ⟨by rw[F];simp[woken_run f.run],λz hz=>?_⟩
        rw[F] at hz;have:=congrArg Goroutine.status (DG hz)
        rw[f.run] at this;cases this
       ·by_cases ag:X=s.c
        ·subst ag
         refine .inr ⟨z2,D,?_⟩;rw[D];simp only[IX,C0];have a5:(mayWake P s.g && E.status !=.blocked && E.status !=.waiting)=true:=by rw[aQ,hr];rfl
         unfold Conc.woken;rw[if_pos a5];exact again_recv_closed (heap_put C)
        ·refine .inl ⟨?_,λz hz=>?_⟩
         ·rw[D]
          simp only[IX,C0];have a7:EU X w1:=by
           rcases f.qt 0 _ D with h | ⟨g2,c2,z3,sh,e,aR⟩ | ⟨g2,c2,v2,z3,sh,e,_⟩
           ·rcases h with h | h<;>cases h
           ·have:=congrArg Goroutine.offers e
            simp[parked,rcase] at this;rw[this.1.1];exact aR
           ·have:=congrArg Goroutine.offers e
            simp[parked,rcase,scase] at this
          obtain⟨a2,b2,ay⟩:=a7.chg hC ag;exact woken_recv_open _ _ ay
         ·rw[D] at hz
          have:=congrArg Goroutine.offers (DG hz)
          simp[parked,rcase] at this;exact ag this.1
       ·refine .inl ⟨by rw[D];simp only[IX,C0];exact woken_run rfl,λz hz=>?_⟩
        rw[D] at hz;have:=congrArg Goroutine.status (DG hz)
        simp[parked] at this
    ·rw[A] at hi
     have:=DG hi
     rw[<-this] at U;cases U
    ·rw[hi] at B;cases B
     cases q with
     | zero=>rw[show y.status=.finished from T] at U;cases U
     | succ k=>
      rcases T with hf | ⟨_,y',aA,au⟩
      ·rw[hf] at U;cases U
      have Y:=f.slipJ m r au;have o:=runT_crowd_go (P:=P) (sl:=aa) (i:=n0+j) hi (by rw[hi0];exact aA w1);rw[Zr λl y' hl hy'=>(Y.qt l y' yFf).woken] at o;refine Reach.step (R.trans o) ?_;rw[Pe,Array.append_empty];exact ve _ ⟨n0+j, .inr (k+1), .inr k,r,DV k,rfl⟩ _ _ _ _ _ _ rfl Y S
 exact main comps f.acc _ gs ow w t sl rfl f al
end
