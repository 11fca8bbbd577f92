import Derived.Test.YtfeablpbkcgdjaaGreatDoorCD5
namespace Go.Co
open Go.Conc
section
variable {c j k:Nat}{y':Goroutine}{z:Value}
variable {P : Program}{Low : Nat}{n0 : Nat}{t₀ : Trace}{x : RC}{ow : Nat -> Nat -> Prop}{comps fE : List (SC ⊕ Nat)}{gs gs' : Array Goroutine}{w w' : World}{t u : Trace}
theorem zta {p:Prop}(h:p:=by
 rcases h.snd k c' rem seen hLk with⟨s,h1,h2,h3,h4,h5,h6,h7,h8⟩ | ⟨q,y,h1,h2,h3,h4⟩
 .exact .inl ⟨s,h1,h2,h3,h4,h5,h6,h7,by rw[e];exact h8⟩
 .exact .inr ⟨q,y,h1,by rw[e];exact h2,h3,h4⟩):p:=h
theorem PhI.park0 (h:PhI P Low n0 t₀ x ow comps gs w t){vs:List Value}{s:SC}(a:x.L[j]?=some (c,vs,false))(f:comps[n0+j]?=some (.inl s))(hg:gs[n0+j]?=some s.g)
  (d:stepG P true x.g w=.comm x.g #[rcase c z] true (.recv true) w #[]):PhI P Low n0 t₀ x ow comps (gs.setIfInBounds 0 (parked x.g #[rcase c z] (.recv true))) w t:=by
 have n:=h.pos;have b:0<gs.size:=by have:=(h.lt a).2.1;omega
 refine⟨h.pos,by simpa using h.len,h.c0,by simpa using h.siz,h.run,h.keep, .inr ⟨j,c,vs,z,w,a,h.keep,d, .inl ⟨by simp[b],s,f,by rw[A7 AU];exact hg⟩⟩,λi hi m=>?_,λk c' rem seen hLk=>?_,h.own0,h.ownS,h.chan,h.dist,h.ows,h.low,h.tr⟩
 .obtain⟨q,y,h1,h2,h3⟩:=h.old i hi m
  exact⟨q,y,h1,by rw[A7 AU];exact h2,h3⟩
 .have e:(gs.setIfInBounds 0 (parked x.g #[rcase c z] (.recv true)))[n0+k]?=gs[n0+k]?:=A7 AU
  exact zta
theorem PhI.parkJ (h:PhI P Low n0 t₀ x ow comps gs w t){rem:List Value}{v:Value}{s:SC}(n:x.L[j]?=some (c,rem,false))(o:comps[n0+j]?=some (.inl s))(hg:gs[n0+j]?=some s.g)
  (G:∀m,gs[0]?≠some (parked x.g #[rcase c m] (.recv true)))
  (F:stepG P false s.g w=.comm s.g #[scase c v z] true .send w #[]):PhI P Low n0 t₀ x ow comps (gs.setIfInBounds (n0+j) (parked s.g #[scase c v z] .send)) w t:=by
 have I:=h.pos;obtain⟨K,E,J⟩:=h.lt n;refine⟨h.pos,by simpa using h.len,h.c0,by simpa using h.siz,h.run,h.keep,?_,λi hi H=>?_,λk c' rem seen hLk=>?_,h.own0,h.ownS,h.chan,h.dist,h.ows,h.low,h.tr⟩
 .rcases h.zero with h0 | ⟨k,c',B,m,D,a,b,C,⟨d,r,e,f⟩ | ⟨d,e⟩⟩
  .exact .inl yEf
  .have A:k≠j:=by
    rintro rfl;rw[n] at a;cases a;exact G m d
   exact .inr ⟨k,c',B,m,D,a,b,C, .inl ⟨by rw[A7 AU];exact d,r,e,by rw[A7 AU];exact f⟩⟩
  .exact .inr ⟨k,c',B,m,D,a,b,C, .inr ⟨by rw[A7 AU];exact d,e⟩⟩
 .obtain⟨q,y,h1,h2,h3⟩:=h.old i hi H
  exact⟨q,y,h1,by rw[A7 AU];exact h2,h3⟩
 .by_cases A:k=j
  .subst A
   rw[n] at hLk;cases hLk;rcases h.snd k c _ _ n with⟨r,h1,h2,h3,h4,h5,h6,h7,h8⟩ | ⟨q,y,h1,h2,h3,h4⟩
   .rw[o] at h1;cases h1
    exact .inl ⟨s,o,h2,h3,h4,h5,h6,h7, .inr ⟨v,z,w,FB E,h6,h7,F⟩⟩
   .rw[o] at h1;cases h1
  .have e:(gs.setIfInBounds (n0+j) (parked s.g #[scase c v z] .send))[n0+k]?=gs[n0+k]?:=A7 AU
   exact zta
theorem PhI.close (h:PhI P Low n0 t₀ x ow comps gs w t){s:SC}{g':Goroutine}{n v C:Nat}(m:x.L[j]?=some (c,[],false))(hs:comps[n0+j]?=some (.inl s))(U:w.heap[c]?=some (.chan 0 #[] false v C false))(hq:QuitsIn P n g')
  (R:gs'.size=gs.size) (hJ:gs'[n0+j]?=some g') (I:∀l,l≠0->l≠n0+j->gs'[l]?=gs[l]?)
  (h0:(gs'[0]?=gs[0]?/\∀z,gs[0]?≠some (parked x.g #[rcase c z] (.recv true)))\/∃z,gs[0]?=some (parked x.g #[rcase c z] (.recv true))/\gs'[0]?=some {parked x.g #[rcase c z] (.recv true) with status:=.running}) (fn:FuncId) (pos:String):
  PhI P Low n0 t₀ x ow (comps.set (n0+j) (.inr n)) gs' (w.shut c v C false) (t++MemOp.ofEvents (n0+j) fn pos #[⟨.obj c,false,true⟩,⟨.obj c,true,true⟩]):=by
 have hn:=h.pos;obtain⟨hj,af,Q⟩:=h.lt m;have H:EM (λb=>b=c) w (w.shut c v C false):=EM.put w c _;have N:Ix c (w.shut c v C false):=⟨v,C,heap_put U⟩
 obtain⟨W,hO⟩:=h.part (S:=λb=>b=c) (k:=0) (by rintro b rfl;exact(h.chan j _ _ _ m).1);have Z:∀b,x.O b->b<w.heap.size/\¬b=c:=λb E=>⟨h.ows.up _ _ (h.own0 b E),λe=>(h.chan j _ _ _ m).2 (e ▸ E)⟩
 have X:(w.shut c v C false).heap.size=w.heap.size:=by simp[World.shut]
 obtain⟨ab,aa⟩:=h.tr.close (k:=n0+j) (c:=c) h.ows ⟨j,hj,rfl⟩ fn pos;refine⟨h.pos,by rw[R];simpa using h.len,by rw[C7 AU];exact h.c0,by rw[R];exact h.siz,h.run,h.keep.chg H Z W,?_,λi hi ae=>?_,λk B ad seen F=>?_,h.own0,λk r A b E=>?_,h.chan,h.dist,by rw[X];exact h.ows,by rw[X];exact h.low,ab⟩
 .rcases h.zero with V | ⟨k,B,T,D,M,a,b,K,⟨d,r,e,f⟩ | ⟨d,e⟩⟩
  .rcases h0 with⟨h0,_⟩ | ⟨z,h0,_⟩
   .exact .inl (by rw[h0];exact V)
   .rw[V] at h0
    have:=congrArg Goroutine.status (DT h0)
    rw[h.run] at this;cases this
  .by_cases o:k=j
   .subst o
    rw[m] at a;cases a;rcases h0 with⟨_,h0⟩ | ⟨z,h0,G⟩
    .exact absurd d (h0 D)
    .rw[d] at h0
     have hz:D=z:=by
      have:=congrArg Goroutine.offers (DT h0)
      simp[parked,rcase] at this;exact this
     subst hz;exact .inr ⟨k,c,[],D,M,m,b,K, .inr ⟨G,N⟩⟩
   .have J:B≠c:=λe=>o (h.dist k j c _ _ _ _ (e ▸ a) m)
    rcases h0 with⟨h0,_⟩ | ⟨z,h0,G⟩
    .exact .inr ⟨k,B,T,D,M,a,b,K, .inl ⟨by rw[h0];exact d,r,by rw[C7 AU];exact e,by rw[I _ AU AU];exact f⟩⟩
    .rw[d] at h0
     have:=congrArg Goroutine.offers (DT h0)
     simp[parked,rcase] at this;exact absurd this.1 J
  .rcases h0 with⟨h0,_⟩ | ⟨z,h0,G⟩
   .have o:k≠j:=by
     rintro rfl;rw[m] at a;cases a;obtain⟨a1,a2,e⟩:=e;rw[U] at e;cases e
    have J:¬B=c:=λe=>o (h.dist k j c _ _ _ _ (e ▸ a) m)
    exact .inr ⟨k,B,T,D,M,a,b,K, .inr ⟨by rw[h0];exact d,e.chg H J⟩⟩
   .rw[d] at h0
    have:=congrArg Goroutine.status (DT h0)
    simp[parked] at this
 .obtain⟨q,y,h1,h2,Y⟩:=h.old i hi ae
  exact⟨q,y,by rw[C7 AU];exact h1,by rw[I _ AU AU];exact h2,Yu Y (Js AU)⟩
 .by_cases o:k=j
  .subst o
   rw[m] at F;cases F;exact .inr ⟨n,g',EY Q,hJ,hq,rfl,N,aa,λe=>by cases e⟩
  .exact(h.snd k B ad seen F).turn (C7 AU) (I _ AU AU) H (λr A=>hO (n0+k) r.O AU (h.ownS k r A)) W (λe=>o (h.dist k j c _ _ _ _ (e ▸ F) m)) (λop ac e=>absurd e (Js AU op ac))
 .by_cases o:k=j
  .subst o
   rw[EY Q] at A;cases A
  .rw[C7 AU] at A
   exact h.ownS k r A b E
theorem PhI.slipOld (h:PhI P Low n0 t₀ x ow comps gs w t){i:Nat}{es:Array Event}(hi:0<i)(X:i<n0)(H:∀e∈es,Event.mute e=true)(G:QuitsD P k (deafBehind (Deaf t i) es) y')(fn:FuncId)(pos:String):
  PhI P Low n0 t₀ x ow (comps.set i (.inr k)) (gs.setIfInBounds i y') w (t++MemOp.ofEvents i fn pos es):=by
 have W:=h.siz;have V:=h.len;have J:Tr Low n0 x.L.length t₀ (t++MemOp.ofEvents i fn pos es) ow:=h.tr.silent λop s=>by
  obtain⟨e,K,rfl⟩:=Go.Conc.mem_ofEvents s;exact⟨touch_mute (H e K),λo=>by rcases o with o | o<;>(simp at o;omega)⟩
 obtain⟨U,E⟩:=h.part (S:=λ_=>False) (k:=0) (λb r=>r.elim);refine⟨h.pos,by simpa using h.len,by rw[C7 AU];exact h.c0,by simpa using h.siz,h.run,h.keep,?_,λl T F=>?_,λl n M seen Q=>?_,h.own0,λl g m b r=>?_,h.chan,h.dist,h.ows,h.low,J⟩
 .rcases h.zero with h0 | ⟨k,n,A,v,C,a,b,B,⟨d,g,e,f⟩ | ⟨d,e⟩⟩
  .exact .inl yEf
  .exact .inr ⟨k,n,A,v,C,a,b,B, .inl ⟨by rw[A7 AU];exact d,g,by rw[C7 AU];exact e,by rw[A7 AU];exact f⟩⟩
  .exact .inr ⟨k,n,A,v,C,a,b,B, .inr ⟨by rw[A7 AU];exact d,e⟩⟩
 .by_cases R:i=l
  .subst R
   exact⟨k,y',EY AU,FB AU,by rw[Deaf_own];exact G⟩
  .obtain⟨q,y,N,I,D⟩:=h.old l T F
   exact⟨q,y,by rw[C7 AU];exact N,by rw[A7 AU];exact I,Yu D (Js AU)⟩
 .exact(h.snd l n M seen Q).turn (C7 AU) (A7 AU) (EM.same w) (λg m=>E (n0+l) g.O (by have:=h.pos;omega) (h.ownS l g m)) U id (λop s e=>absurd e (Js AU op s))
 .rw[C7 AU] at m
  exact h.ownS l g m b r
theorem PhI.slipJ (h:PhI P Low n0 t₀ x ow comps gs w t){q:Nat}{e:Nat × List Value × Bool}(S:x.L[j]?=some e)(C:comps[n0+j]?=some (.inr q))(Q:QuitsIn P k y'):
  PhI P Low n0 t₀ x ow (comps.set (n0+j) (.inr k)) (gs.setIfInBounds (n0+j) y') w t:=by
 have Y:=h.pos;obtain⟨hj,U,G⟩:=h.lt S;refine⟨h.pos,by simpa using h.len,by rw[C7 AU];exact h.c0,by simpa using h.siz,h.run,h.keep,?_,λl X O=>?_,λl r I seen J=>?_,h.own0,λl A v b N=>?_,h.chan,h.dist,h.ows,h.low,h.tr⟩
 .rcases h.zero with h0 | ⟨k,r,H,E,M,a,b,K,⟨d,A,e,f⟩ | ⟨d,e⟩⟩
  .exact .inl yEf
  .have Z:k≠j:=by
    rintro rfl;rw[C] at e;cases e
   exact .inr ⟨k,r,H,E,M,a,b,K, .inl ⟨by rw[A7 AU];exact d,A,by rw[C7 AU];exact e,by rw[A7 AU];exact f⟩⟩
  .exact .inr ⟨k,r,H,E,M,a,b,K, .inr ⟨by rw[A7 AU];exact d,e⟩⟩
 .obtain⟨q,y,g,n,m⟩:=h.old l X O
  exact⟨q,y,by rw[C7 AU];exact g,by rw[A7 AU];exact n,m⟩
 .by_cases B:l=j
  .subst B
   rcases h.snd l r I seen J with⟨s,g,_⟩ | ⟨q,y,g,n,m,o⟩
   .rw[C] at g;cases g
   .exact .inr ⟨k,y',EY G,FB U,Q,o⟩
  .have F:(comps.set (n0+j) (.inr k))[n0+l]?=comps[n0+l]?:=C7 AU
   have D:(gs.setIfInBounds (n0+j) y')[n0+l]?=gs[n0+l]?:=A7 AU;rcases h.snd l r I seen J with⟨s,g,n,m,o,T,W,R,V⟩ | ⟨q,y,g,n,m,o⟩
   .exact .inl ⟨s,by rw[F];exact g,n,m,o,T,W,R,by rw[D];exact V⟩
   .exact .inr ⟨q,y,by rw[F];exact g,by rw[D];exact n,m,o⟩
 .by_cases B:l=j
  .subst B
   rw[EY G] at v;cases v
  .rw[C7 AU] at v
   exact h.ownS l A v b N
end
section
variable {c i j l:Nat}{y:Goroutine}
variable {P : Program}{Low : Nat}{n0 : Nat}{t₀ : Trace}{x : RC}{ow : Nat -> Nat -> Prop}{comps : List (SC ⊕ Nat)}{gs : Array Goroutine}{w : World}{t : Trace}{sl : Option (Nat × Nat)}
def Reach (P:Program)(Stop:Goroutine->World->Prop)(tape:Nat->Question->Nat)(gs:Array Goroutine)(w:World)(sl:Option (Nat × Nat))(t:Trace):Prop:=
 ∃N gs' a w' d b,runNT P N (crowd gs w sl) t=(.next (crowd gs' w' d),b)/\K3 P gs' b a/\w'.tape=tape/\Stop a w'
theorem Reach.step {Stop:Goroutine->World->Prop}{tape:Nat->Question->Nat}{b:Array Goroutine}{a:World}{d:Option (Nat × Nat)}{ops:Trace}(f:stepT P (crowd gs w sl)=(.next (crowd b a d),ops))(h:Reach P Stop tape b a d (t++ops)):Reach P Stop tape gs w sl t:=by
 obtain⟨N,gs',e,w',p,m,g,hF,n,o⟩:=h;exact⟨N+1,gs',e,w',p,m,by simp only[runNT,f];exact g,hF,n,o⟩
theorem Z4 (h:y.status=.running\/y.status=.finished):y.status≠.blocked:=by rcases h with h | h<;>rw[h]<;>simp
theorem PhI.offT (h:PhI P Low n0 t₀ x ow comps gs w t){vs:List Value}{B:Bool}(A:x.L[j]?=some (c,vs,B))(hl:l≠n0+j)(a:gs[l]?=some y):offersAt y c true=[]:=by
 have H:=(Array.getElem?_eq_some_iff.1 a).1;rcases JB l with rfl | C
 .rcases h.zero with b | ⟨k,n,vs,z,F,_,_,_,⟨b,_⟩ | ⟨b,_⟩⟩
  .rw[b] at a;cases a;exact offersAt_of_not_blocked (Z4 (.inl h.run)) _ _
  .rw[b] at a;cases a;exact offersAt_parked_recv' _ _ _ _ _
  .rw[b] at a;cases a;exact offersAt_of_not_blocked (Z4 (.inl rfl)) _ _
 .rcases EV l n0 with m | m
  .obtain⟨q,y',_,d,f⟩:=h.old l C m
   rw[a] at d;cases d;exact offersAt_of_not_blocked (Z4 f.status) _ _
  .obtain⟨k,rfl⟩:∃k,l=n0+k:=⟨l - n0,AU⟩
   have D:k<x.L.length:=by have:=h.siz;omega
   obtain⟨⟨n,E,seen⟩,o⟩:∃e,x.L[k]?=some e:=⟨_,D1 D⟩
   rcases h.snd k n E seen o with⟨s,_,_,_,_,r,_,G,g | ⟨v,z,F,g,_⟩⟩ | ⟨q,y',_,d,f,_⟩
   .rw[g] at a;cases a;exact offersAt_of_not_blocked (Z4 (.inl r.inv.1)) _ _
   .rw[g] at a;cases a
    rw[offersAt_parked_send,if_neg];rintro rfl;exact hl (by rw[h.dist k j _ _ _ _ _ o A])
   .rw[d] at a;cases a;exact offersAt_of_not_blocked (Z4 f.status) _ _
theorem PhI.offF (h:PhI P Low n0 t₀ x ow comps gs w t)(hl:l≠0)(a:gs[l]?=some y):offersAt y c false=[]:=by
 have D:=(Array.getElem?_eq_some_iff.1 a).1;rcases EV l n0 with g | g
 .obtain⟨q,y',_,b,d⟩:=h.old l AU g
  rw[a] at b;cases b;exact offersAt_of_not_blocked (Z4 d.status) _ _
 .obtain⟨k,rfl⟩:∃k,l=n0+k:=⟨l - n0,AU⟩
  have n:k<x.L.length:=by have:=h.siz;omega
  obtain⟨⟨o,r,seen⟩,A⟩:∃e,x.L[k]?=some e:=⟨_,D1 n⟩
  rcases h.snd k o r seen A with⟨s,_,_,_,_,m,_,B,f | ⟨v,z,C,f,_⟩⟩ | ⟨q,y',_,b,d,_⟩
  .rw[f] at a;cases a;exact offersAt_of_not_blocked (Z4 (.inl m.inv.1)) _ _
  .rw[f] at a;cases a;exact offersAt_parked_send' _ _ _ _ _ _
  .rw[b] at a;cases a;exact offersAt_of_not_blocked (Z4 d.status) _ _
theorem NJ {b:Bool}(h:∀l y,l≠i->gs[l]?=some y->offersAt y c b=[]):partners (gs.setIfInBounds i ph) c b=[]:=by
 refine partners_nil λl y d=>?_
 rcases getElem?_stand gs i l y d with⟨_,rfl⟩ | ⟨a,e⟩
 .exact offersAt_ph _ _
 .exact h l y a e
theorem Wb {b:Bool}{g:Goroutine}(n:j≠i)(a:gs[j]?=some g)(o:offersAt g c b=[0])(h:∀l y,l≠i->l≠j->gs[l]?=some y->offersAt y c b=[]):partners (gs.setIfInBounds i ph) c b=[(j,0)]:=by
 rw[partners_one (stand_get n a) λl y d e=>?_,o]
 .rfl
 .rcases getElem?_stand gs i l y e with⟨_,rfl⟩ | ⟨f,m⟩
  .exact offersAt_ph _ _
  .exact h l y f d m
theorem PhI.ends (h:PhI P Low n0 t₀ x ow comps gs w t)(G:∀e∈x.L,e.2.2=true):K3 P gs t x.g:=by
 have A:∀(j c:Nat) (v:List Value) (b:Bool),x.L[j]?=some (c,v,b)->b=true:=λj c v b F=>G _ (JD F)
 have hS:∀j,j<x.L.length->∃q y,gs[n0+j]?=some y/\QuitsIn P q y/\Zc t (n0+j):=by
  intro j n;obtain⟨⟨C,I,seen⟩,D⟩:∃e,x.L[j]?=some e:=⟨_,D1 n⟩
  obtain rfl:=A _ _ _ _ D;rcases h.snd j C I true D with⟨s,_,_,_,e,_⟩ | ⟨q,y',_,d,m,_,_,_,E⟩
  .cases e
  .exact⟨q,y',d,m,E rfl⟩
 refine⟨?_,?_,h.tr.past λj n=>(hS j n).choose_spec.choose_spec.2.2⟩
 .rcases h.zero with H | ⟨k,C,v,z,J,a,_⟩
  .exact H
  .have:=A _ _ _ _ a;cases this
 .have B:∀i,0<i->i<gs.size->∃q,∀y,gs[i]?=some y->QuitsD P q (Deaf t i) y:=by
   intro i hi r;rcases EV i n0 with o | o
   .obtain⟨q,y',_,d,m⟩:=h.old i hi o
    exact⟨q,λy f=>by rw[f] at d;cases d;exact m⟩
   .obtain⟨k,rfl⟩:∃k,i=n0+k:=⟨i - n0,AU⟩
    obtain⟨q,y',d,m,_⟩:=hS k (by have:=h.siz;omega);exact⟨q,λy f=>by rw[f] at d;cases d;rw[h.tr.hearS _ o];exact QuitsD.of_quitsIn m⟩
  classical
  refine⟨λi=>if hi:0<i/\i<gs.size then(B i hi.1 hi.2).choose else 0,λi y hi f=>?_,λj n=>h.tr.hearS j (by have:=h.siz;omega)⟩;have r:=(Array.getElem?_eq_some_iff.1 f).1;simp only[hi,r,and_self,dite_true];exact(B i hi r).choose_spec y f
end
section
variable {P : Program}{Low : Nat}{n0 : Nat}{t₀ : Trace}{Stop : Goroutine -> World -> Prop}
theorem qn {g:Goroutine}{cs:Array CommCase}{sh:CommShape}(hr:g.status=.running)(w:World):stepG P true {parked g cs sh with status:=.running} w=stepG P true g w:=by
 rw[stepG_tries];congr 1;obtain⟨a,b,c,d⟩:=g;simp at hr;subst hr;rfl
theorem pushes {t:Trace}{fn e:FuncId}{pos d:String}{k l:Nat}{a b:MemAct}:t++((MemOp.ofEvents k fn pos #[]).push {g:=k,fn,pos,act:=a}).push {g:=l,fn:=e,pos:=d,act:=b}=t++#[{g:=k,fn,pos,act:=a},{g:=l,fn:=e,pos:=d,act:=b}]:=by
 rw[ofEvents_eq];simp
theorem Me (k:Nat)(fn:FuncId)(pos:String):MemOp.ofEvents k fn pos #[]=#[]:=by rw[ofEvents_eq];simp
theorem phase (tape:Nat->Question->Nat){x:RC}(h:EI P Low Stop x):
  ∀ow comps gs w t sl,PhI P Low n0 t₀ x ow comps gs w t->w.tape=tape->Reach P Stop tape gs w sl t:=by
 refine h (λx=>∀ow comps gs w t sl,PhI P Low n0 t₀ x ow comps gs w t->w.tape=tape->Reach P Stop tape gs w sl t) ?_;intro x hx ow comps gs w t sl f ag;have main:∀comps,Acc (RL (LH P Low)) comps->∀(n:Nat) (gs:Array Goroutine) (ow:Nat->Nat->Prop) (w:World) (t:Trace) (sl:Option (Nat × Nat)),cnt gs.toList=n->PhI P Low n0 t₀ x ow comps gs w t->w.tape=tape->Reach P Stop tape gs w sl t:=by
  intro comps a3;induction a3 with
  | intro comps _ wV=>
  intro n;induction n using Nat.strongRecOn with
  | ind n je=>
  intro gs ow w t sl aE f ag;by_cases av:(∀e∈x.L,e.2.2=true)/\∀aG,Keep Low x.O x.w aG->Stop x.g aG
  .exact⟨0,gs,x.g,w,sl,t,rfl,f.ends av.1,ag,av.2 w f.keep⟩
  have hn:=f.pos
  obtain⟨i,y,d,Z,hi,T,W⟩:=crowd_pick (P:=P) (w:=w) (sl:=sl) (λg C=>by
   obtain⟨i,hi⟩:=Array.mem_iff_getElem?.1 C
   exact(f.qt i g hi).awake) f.runs
  replace f:=f.at d;have U:(w.at d).tape=tape:=ag;generalize w.at d=w1 at f W U;clear ag;have al:=(Array.getElem?_eq_some_iff.1 hi).1;have a7:∀(l:Nat) (g:Goroutine),(gs.setIfInBounds l g).size=gs.size:=λl g=>by simp
  have closed:∀(j c:Nat) (E:List Value) (z:Value) (q:Nat),i=0->x.L[j]?=some (c,E,false)->stepG P true y w1=.comm x.g #[rcase c z] true (.recv true) w1 #[]->comps[n0+j]?=some (.inr q)->
    ((∀v S,E=v::S->∀ow comps gs w t sl,PhI P Low n0 t₀ ⟨x.O,x.L.set j (c,S,false),Conc.served x.g (recvd true v true),w1⟩ ow comps gs w t->w.tape=tape->Reach P Stop tape gs w sl t)/\
     (E=[]->∀ow comps gs w t sl,PhI P Low n0 t₀ ⟨x.O,x.L.set j (c,[],true),Conc.served x.g (recvd true z false),w1⟩ ow comps gs w t->w.tape=tape->Reach P Stop tape gs w sl t))->Reach P Stop tape gs w sl t:=by
   intro j c E z q hi0 m e1 hq J;subst hi0;have aj:E=[]/\Ix c w1/\∀y',gs[n0+j]?=some y'->y'.status≠.blocked:=by
    rcases f.snd j c E false m with⟨s',r,_⟩ | ⟨q,y,r,B,R,h4,h5,_⟩
    .rw[hq] at r;cases r
    .exact⟨h4,h5,λy' hy'=>by rw[hy'] at B;cases B;exact Z4 R.status⟩
   obtain⟨aj,⟨a,b,A⟩,aN⟩:=aj;have N:partners (gs.setIfInBounds 0 ph) c true=[]:=NJ λl y' hl hy'=>by
    by_cases V:l=n0+j
    .subst V;exact offersAt_of_not_blocked (aN y' hy') _ _
    .exact f.offT m V hy'
   have o:=crowd_recv_closed (P:=P) (sl:=Z) (i:=0) hi (show stepG P (0==0) y w1=_ from e1) A N;rw[finishComm_recv,Me,Array.empty_append] at o;refine Reach.step (W.trans o) (J.2 aj _ _ _ _ _ _ (f.seen m hq rfl (a7 _ _) (by simp[al]) (λl hl=>A7 hl) _ _) U)
  rcases JB i with rfl | aC
  .rcases f.zero with G | ⟨j,c,E,z,I,m,K,M,⟨N,_⟩ | ⟨N,aX⟩⟩
   .obtain rfl:y=x.g:=by rw[G] at hi;exact(DT hi).symm
    rcases hx.2 with aK | af | ⟨c,A,ai⟩ | ⟨j,c,E,z,m,ac⟩
    .exact absurd aK av
    .obtain⟨H,w',es,e1,hr,hS,J⟩:=af w1 f.keep
     have Y:=f.own0' G hr hS x.g.frame.fn x.g.frame.place;have o:=runT_crowd_go (P:=P) (sl:=Z) (i:=0) G (show stepG P (0==0) x.g w1=_ from e1);rw[Xv λl y' hl hy'=>(Y.qt l y' yEg).woken] at o;exact Reach.step (W.trans o) (J _ _ _ _ _ _ Y (hS.tape.trans U))
    .obtain⟨H,child,E,e1,hr,ac,Q,hS,J⟩:=ai w1 f.keep
     have o:=runT_crowd_spawn (P:=P) (sl:=Z) (i:=0) G (show stepG P (0==0) x.g w1=_ from e1);refine Reach.step (W.trans o) ?_;rw[pushes];exact J _ _ _ _ _ _ (f.spawn G A hr Q hS _ _ _ _) U
    .obtain⟨e1,J⟩:=ac w1 f.keep
     have aM:=(f.lt m).2.1;rcases f.snd j c E false m with⟨s,s1,s2,s3,_,aZ,hk,Q,C | ⟨v,z',I,C,K,an,M⟩⟩ | ⟨q,y,r,B,R,h4,h5,_⟩
     .
      obtain⟨a,b,A⟩:=Q;have N:partners (gs.setIfInBounds 0 ph) c true=[]:=NJ λl y' hl hy'=>by
       by_cases V:l=n0+j
       .subst V;rw[C] at hy';cases hy';exact offersAt_of_not_blocked (Z4 (.inl aZ.inv.1)) _ _
       .exact f.offT m V hy'
      have o:=crowd_waits (P:=P) (sl:=Z) (i:=0) G (show stepG P (0==0) x.g w1=_ from e1) (λcc ad=>by
       have:cc=rcase c z:=by simpa using ad
       subst this
       exact ways_recv_none A N)
      refine Reach.step (W.trans o) ?_;rw[Me,Array.append_empty];refine je _ ?_ _ _ _ _ _ rfl (f.park0 m s1 C e1) U;rw[<-aE,Array.toList_setIfInBounds];exact YD (x:=x.g) (by simpa using G) (Z4 (.inl f.run)) rfl
     .
      obtain⟨a,b,A⟩:=Q;have aP:∃S,s.vs=v::S/\(∃z,stepG P false s.g w1=.comm s.g #[scase s.c v z] true .send w1 #[])/\D2 P Low ⟨s.c,s.O,S,Conc.served s.g undef,w1⟩:=by
       subst s2;rcases aZ.inv.2 with aA | ⟨v',S,e,ax⟩ | ⟨_,_,ap⟩
       .obtain⟨H,w',es,F,_⟩:=aA I K an
        rw[M] at F;cases F
       .obtain⟨⟨z2,F⟩,_⟩:=ax I K an
        rw[M] at F;have:v'=v:=by
         have:=congrArg (λs=>match s with | GStep.comm _ cs _ _ _ _=>cs.toList.map CommCase.send | _=>[]) F
         simp[scase] at this;exact this.symm
        subst this;exact⟨S,e,(ax w1 hk ⟨a,b,A⟩).1,(ax w1 hk ⟨a,b,A⟩).2⟩
       .obtain⟨a',b',ao⟩:=an
        obtain⟨H,n',F,_⟩:=ap I a' b' K ao;rw[M] at F;cases F
      obtain⟨S,aj,⟨z2,F⟩,aQ⟩:=aP;have jR:=s3.trans aj;have aI:n0+j≠0:=AU
      have N:=Wb aI C (by rw[offersAt_parked_send,if_pos rfl]) λl y' hl V hy'=>f.offT m V hy'
      have o:=crowd_recv_meets (P:=P) (sl:=Z) (i:=0) G (show stepG P (0==0) x.g w1=_ from e1) A aI C N;rw[finishComm_recv,finishComm_send,Me,Array.empty_append] at o;refine Reach.step (W.trans o) (J.1 v S jR _ _ _ _ _ _ (f.meet (jR ▸ m) s1 aQ rfl AW ?_ ?_ ?_ ?_) U)
      .simp[al]
      .rw[A7 AU];exact FB aM
      .intro l r B;rw[A7 r,A7 B]
      .intro op ak
       simp at ak;rcases ak with rfl | rfl | rfl | rfl<;>simp[MemAct.touch?]
     .exact closed j c E z q rfl m e1 r J
   .rw[N] at hi
    have:=DT hi
    rw[<-this] at T;cases T
   .have a8:y={parked x.g #[rcase c z] (.recv true) with status:=.running}:=by rw[N] at hi;exact(DT hi).symm
    have aT:stepG P true y w1=stepG P true x.g w1:=by rw[a8];exact qn f.run w1
    obtain⟨q,hq⟩:∃q,comps[n0+j]?=some (.inr q):=by
     rcases f.snd j c E false m with⟨s,s1,s2,s3,_,aZ,hk,⟨a,b,Q⟩,_⟩ | ⟨q,y,r,_⟩
     .obtain⟨a',b',ao⟩:=aX
      rw[Q] at ao;cases ao
     .exact⟨q,r⟩
    rcases hx.2 with⟨aw,_⟩ | af | ⟨c,A,ai⟩ | ⟨j',X,S,z',ae,ac⟩
    .have:=aw _ (JD m);cases this
    .obtain⟨H,w',es,e1,_⟩:=af I K
     rw[M] at e1;cases e1
    .obtain⟨H,child,E,e1,_⟩:=ai I K
     rw[M] at e1;cases e1
    .have F:=(ac I K).1
     rw[M] at F;have:c=X/\z=z':=by
      have:=congrArg (λs=>match s with | GStep.comm _ cs _ _ _ _=>cs.toList | _=>[]) F
      simp[rcase] at this;exact this
     obtain⟨rfl,rfl⟩:=this;obtain rfl:=f.dist j j' c _ _ _ _ m ae;rw[m] at ae;cases ae;obtain⟨e1,J⟩:=ac w1 f.keep;exact closed j c E z q rfl m (aT.trans e1) hq J
  .have hi0:(i==0)=false:=by simp;omega
   rcases EV i n0 with aB | aB
   .
    obtain⟨q,y',r,B,R⟩:=f.old i aC aB;rw[hi] at B;cases B;cases q with
    | zero=>rw[R.1] at T;cases T
    | succ k=>
     rcases R with⟨hf,_⟩ | ⟨_,y',es,hm,au,ar⟩
     .rw[hf] at T;cases T
     have Y:=f.slipOld aC aB hm ar y.frame.fn y.frame.place;have o:=runT_crowd_go (P:=P) (sl:=Z) (i:=i) hi (by rw[hi0];exact au w1);rw[Xv λl y' hl hy'=>(Y.qt l y' yEg).woken] at o;exact Reach.step (W.trans o) (wV _ ⟨i, .inr (k+1), .inr k,r,DN k,rfl⟩ _ _ _ _ _ _ rfl Y U)
   .obtain⟨j,rfl⟩:∃j,i=n0+j:=⟨i - n0,AU⟩
    have hj:j<x.L.length:=by have:=f.siz;omega
    obtain⟨⟨c,az,seen⟩,m⟩:∃e,x.L[j]?=some e:=⟨_,D1 hj⟩
    rcases f.snd j c az seen m with⟨s,s1,s2,s3,s4,aZ,hk,Q,C | ⟨v,z',I,C,K,an,M⟩⟩ | ⟨q,y',r,B,R,h4,h5,_⟩
    .obtain rfl:y=s.g:=by rw[C] at hi;exact(DT hi).symm
     subst s2 s4;rcases aZ.inv.2 with af | ⟨v,S,e,hv⟩ | ⟨a9,aL,ap⟩
     .obtain⟨H,w',es,e1,hr,hS,J⟩:=af w1 hk Q
      have Y:=f.ownJ hj s1 C hr hS J s.g.frame.fn s.g.frame.place;have o:=runT_crowd_go (P:=P) (sl:=Z) (i:=n0+j) C yFd;rw[Xv λl y' hl hy'=>(Y.qt l y' yEg).woken] at o;refine Reach.step (W.trans o) (wV _ ⟨n0+j,_,_,s1,?_,rfl⟩ _ _ _ _ _ _ rfl Y (hS.tape.trans U));refine⟨w1,hk,Q, .inl ⟨H,w',es,e1,Q.chg hS.chg λhb=>?_,rfl⟩⟩;have:=f.ows.apart _ _ _ (f.chan j _ _ _ m).1 (f.ownS j s s1 _ hb)
      omega
     .obtain⟨⟨z,e1⟩,J⟩:=hv w1 hk Q
      obtain⟨a,b,A⟩:=id Q;by_cases aJ:∃z',gs[0]?=some (parked x.g #[rcase s.c z'] (.recv true))
      .obtain⟨z',ab⟩:=aJ
       have N:partners (gs.setIfInBounds (n0+j) ph) s.c false=[(0,0)]:=Wb AU ab (by rw[offersAt_parked_recv,if_pos rfl]) λl y' hl ah hy'=>f.offF ah hy'
       have o:=crowd_send_meets (P:=P) (sl:=Z) (i:=n0+j) (j:=0) C yFd A AU ab N;rw[finishComm_recv,finishComm_send,Me,Array.empty_append] at o;rcases f.zero with G | ⟨k,X,aD,z2,I,aa,K,M,⟨D,_⟩ | ⟨D,_⟩⟩
       .rw[G] at ab
        have:=congrArg Goroutine.status (DT ab)
        rw[f.run] at this;cases this
       .rw[D] at ab
        have aV:X=s.c/\z2=z':=by
         have:=congrArg Goroutine.offers (DT ab)
         simp[parked,rcase] at this;exact this
        obtain⟨rfl,rfl⟩:=aV;obtain rfl:=f.dist k j s.c _ _ _ _ aa m;rw[m] at aa;cases aa;rcases hx.2 with⟨aw,_⟩ | af | ⟨c,A,ai⟩ | ⟨j',X,ba,z3,ae,ac⟩
        .have:=aw _ (JD m);cases this
        .obtain⟨H,w',es,e1,_⟩:=af I K
         rw[M] at e1;cases e1
        .obtain⟨H,child,E,e1,_⟩:=ai I K
         rw[M] at e1;cases e1
        .have F:=(ac I K).1
         rw[M] at F;have:s.c=X:=by
          have:=congrArg (λs=>match s with | GStep.comm _ cs _ _ _ _=>cs.toList | _=>[]) F
          simp[rcase] at this;exact this.1
         subst this;obtain rfl:=f.dist k j' s.c _ _ _ _ m ae;rw[m] at ae;cases ae;have jR:=s3.trans e;refine Reach.step (W.trans o) ((ac w1 f.keep).2.1 v S jR _ _ _ _ _ _ (f.meet (jR ▸ m) s1 J rfl AW ?_ ?_ ?_ ?_) U)
         .rw[A7 AU];exact FB AU
         .exact FB (by simpa using al)
         .intro l r B;rw[A7 B,A7 r]
         .intro op ak
          simp at ak;rcases ak with rfl | rfl | rfl | rfl<;>simp[MemAct.touch?]
       .rw[D] at ab
        have:=congrArg Goroutine.status (DT ab)
        simp[parked] at this
      .have aH:∀z',gs[0]?≠some (parked x.g #[rcase s.c z'] (.recv true)):=λz' hz=>aJ ⟨z',hz⟩
       have N:partners (gs.setIfInBounds (n0+j) ph) s.c false=[]:=NJ λl y' hl hy'=>by
        rcases JB l with rfl | ah
        .rcases f.zero with G | ⟨k,X,aD,z2,I,aa,K,M,⟨D,_⟩ | ⟨D,_⟩⟩
         .rw[G] at hy';cases hy';exact offersAt_of_not_blocked (Z4 (.inl f.run)) _ _
         .rw[D] at hy';cases hy'
          rw[offersAt_parked_recv,if_neg];rintro rfl;exact aH _ D
         .rw[D] at hy';cases hy';exact offersAt_of_not_blocked (Z4 (.inl rfl)) _ _
        .exact f.offF AU hy'
       have o:=crowd_waits (P:=P) (sl:=Z) (i:=n0+j) C yFd (λcc ad=>by
        have:cc=scase s.c v z:=by simpa using ad
        subst this
        exact ways_send_none A AW N)
       refine Reach.step (W.trans o) ?_;rw[Me,Array.append_empty];refine je _ ?_ _ _ _ _ _ rfl (f.parkJ m s1 C aH e1) U;rw[<-aE,Array.toList_setIfInBounds];exact YD (x:=s.g) (by simpa using C) (Z4 (.inl aZ.inv.1)) rfl
     .obtain⟨a,b,A⟩:=id Q
      obtain⟨H,nq,e1,hr,hq⟩:=ap w1 a b hk A;have yZ:=s3.trans a9;subst yZ;have o:=runT_crowd_go (P:=P) (sl:=Z) (i:=n0+j) C yFd;have hC:EM (λb=>b=s.c) w1 (w1.shut s.c a b false):=EM.put w1 s.c _;have a6:∀l y',l≠0->l≠n0+j->gs[l]?=some y'->woken P s.g H (w1.shut s.c a b false) y'=y':=by
       intro l y' ah V hy';have bb:=(Array.getElem?_eq_some_iff.1 hy').1;rcases EV l n0 with aF | aF
       .obtain⟨q,y2,_,B,R⟩:=f.old l AU aF
        rw[hy'] at B;cases B;exact woken_quitsD R
       .obtain⟨k,rfl⟩:∃k,l=n0+k:=⟨l - n0,AU⟩
        have aU:k<x.L.length:=by have:=f.siz;omega
        obtain⟨⟨X,az,seen⟩,aa⟩:∃e,x.L[k]?=some e:=⟨_,D1 aU⟩
        rcases f.snd k X az seen aa with⟨s',_,_,_,_,sV,_,aA,r | ⟨v,z,I,r,_⟩⟩ | ⟨q,y2,_,B,R,_⟩
        .rw[r] at hy';cases hy';exact woken_run sV.inv.1
        .rw[r] at hy';cases hy'
         obtain⟨a2,b2,ay⟩:=aA.chg hC (λe=>V (by rw[f.dist k j s.c _ _ _ _ (e ▸ aa) m]));exact woken_send_open _ _ ay
        .rw[B] at hy';cases hy'
         exact woken_quitsD (QuitsD.of_quitsIn R)
      have aS:((gs.map (woken P s.g H (w1.shut s.c a b false))).setIfInBounds (n0+j) H).size=gs.size:=AW
      refine Reach.step (W.trans o) (wV _ ⟨n0+j, .inl s, .inr nq,s1,trivial,rfl⟩ _ _ _ _ _ _ rfl (f.close m s1 A hq aS ?_ ?_ ?_ _ _) U)
      .exact FB (by simpa using al)
      .intro l ah V
       rw[A7 V,JZ];cases a5:gs[l]? with
       | none=>rfl
       | some y'=>simp[a6 l y' ah V a5]
      .rw[A7 AU,JZ]
       rcases f.zero with G | ⟨k,X,aD,z2,I,aa,K,M,⟨D,_⟩ | ⟨D,_⟩⟩
       .refine .inl ⟨by rw[G];simp[woken_run f.run],λz hz=>?_⟩
        rw[G] at hz;have:=congrArg Goroutine.status (DT hz)
        rw[f.run] at this;cases this
       .by_cases ad:X=s.c
        .subst ad
         refine .inr ⟨z2,D,?_⟩;rw[D];simp only[Jx,EQ];have aR:(mayWake P s.g && H.status !=.blocked && H.status !=.waiting)=true:=by rw[aL,hr];rfl
         unfold Conc.woken;rw[if_pos aR];exact again_recv_closed (heap_put A)
        .refine .inl ⟨?_,λz hz=>?_⟩
         .rw[D]
          simp only[Jx,EQ];have aY:X9 X w1:=by
           rcases f.qt 0 _ D with h | ⟨g2,c2,z3,sh,e,aW⟩ | ⟨g2,c2,v2,z3,sh,e,_⟩
           .rcases h with h | h<;>cases h
           .have:=congrArg Goroutine.offers e
            simp[parked,rcase] at this;rw[this.1.1];exact aW
           .have:=congrArg Goroutine.offers e
            simp[parked,rcase,scase] at this
          obtain⟨a2,b2,ay⟩:=aY.chg hC ad;exact woken_recv_open _ _ ay
         .rw[D] at hz
          have:=congrArg Goroutine.offers (DT hz)
          simp[parked,rcase] at this;exact ad this.1
       .refine .inl ⟨by rw[D];simp only[Jx,EQ];exact woken_run rfl,λz hz=>?_⟩
        rw[D] at hz;have:=congrArg Goroutine.status (DT hz)
        simp[parked] at this
    .rw[C] at hi
     have:=DT hi
     rw[<-this] at T;cases T
    .rw[hi] at B;cases B
     cases q with
     | zero=>rw[show y.status=.finished from R] at T;cases T
     | succ k=>
      rcases R with hf | ⟨_,y',au,ar⟩
      .rw[hf] at T;cases T
      have Y:=f.slipJ m r ar;have o:=runT_crowd_go (P:=P) (sl:=Z) (i:=n0+j) hi (by rw[hi0];exact au w1);rw[Xv λl y' hl hy'=>(Y.qt l y' yEg).woken] at o;refine Reach.step (W.trans o) ?_;rw[Me,Array.append_empty];exact wV _ ⟨n0+j, .inr (k+1), .inr k,r,DN k,rfl⟩ _ _ _ _ _ _ rfl Y U
 exact main comps f.acc _ gs ow w t sl rfl f ag
end
