import Derived.Test.YtbfljjcnbbmoaaaGreatDoorCD4
namespace Go.Co
open Go.Conc
section
variable {c j:Nat}{g0:Goroutine}{vs vs':List Value}
variable {P : Program}{Low : Nat}{n0 : Nat}{t₀ : Trace}{x : RC}{ow : Nat -> Nat -> Prop}{comps iK : List (SC ⊕ Nat)}{gs gs' : Array Goroutine}{w w' : World}{t u : Trace}
theorem Chg.same (w:World):Chg (λ_=>False) w w:=⟨λ_ _ _=>rfl,A4d _,rfl,rfl,rfl⟩
theorem A17 {L:List (Nat × List Value × Bool)}{b b':Bool}(hj:L[j]?=some (c,vs,b)){k c':Nat}{r:List Value}{s:Bool}(h:(L.set j (c,vs',b'))[k]?=some (c',r,s)):∃r0 s0,L[k]?=some (c',r0,s0):=by
 by_cases hkj:j=k
 ·subst hkj
  rw[A4x (List.getElem?_eq_some_iff.1 hj).1] at h;cases h;exact⟨_,_,hj⟩
 ·rw[A4i hkj] at h;exact⟨_,_,h⟩
theorem PhI.lt (h:PhI P Low n0 t₀ x ow comps gs w t){e:Nat × List Value × Bool}(hL:x.L[j]?=some e):j<x.L.length/\n0+j<gs.size/\n0+j<comps.length:=by
 have hj:=(List.getElem?_eq_some_iff.1 hL).1;have:=h.siz
 have:=h.len
 omega
theorem PhI.meet (h:PhI P Low n0 t₀ x ow comps gs w t){v:Value}{s:SC}{s1 r1:Nat}(hL:x.L[j]?=some (c,v::vs',false))(hs:comps[n0+j]?=some (.inl s))
  (hX:Snd P Low ⟨s.c,s.O,vs',Conc.served s.g undef,w⟩) (hr:g0.status=.running) (hsz:gs'.size=gs.size) (h0:gs'[0]?=some g0) (hJ:gs'[n0+j]?=some (Conc.served s.g undef)) (hne:∀l,l≠0->l≠n0+j->gs'[l]?=gs[l]?)
  (hu:∀op∈u,op.act.touch?=none/\(op.act≠.mark .disable/\op.act≠.mark .enable)/\(op.g=0\/op.g=n0+j)):
  PhI P Low n0 t₀ ⟨x.O,x.L.set j (c,vs',false),g0,w⟩ ow (comps.set (n0+j) (.inl ⟨s.c,s.O,vs',Conc.served s.g undef,w⟩)) gs' (w.setChan c 0 #[] false s1 r1 false) (t++u):=by
 have hn:=h.pos;obtain⟨hj,hjg,hjc⟩:=h.lt hL;have hC:Chg (λb=>b=c) w (w.setChan c 0 #[] false s1 r1 false):=Chg.put w c _;obtain⟨hLo,hO⟩:=h.part (S:=λb=>b=c) (k:=0) (by rintro b rfl;exact(h.chan j _ _ _ hL).1);have hx0:∀b,x.O b->b<w.heap.size/\¬b=c:=λb hb=>⟨h.ows.up _ _ (h.own0 b hb),λe=>(h.chan j _ _ _ hL).2 (e ▸ hb)⟩
 have hsize:(w.setChan c 0 #[] false s1 r1 false).heap.size=w.heap.size:=by simp[World.setChan]
 have htr:Tr Low n0 (x.L.set j (c,vs',false)).length t₀ (t++u) ow:=by
  rw[List.length_set];exact h.tr.silent λop hop=>⟨(hu op hop).1,λ_=>(hu op hop).2.1⟩
 refine⟨h.pos,by rw[hsz];simpa using h.len,by rw[A4i omz];exact h.c0,by rw[hsz];simpa using h.siz,hr,(Keep.refl _ _ _).chg hC hx0 hLo, .inl h0,λi hi hin=>?_,λk c' rem seen hLk=>?_,h.own0,λk s' hs' b hb=>?_,λk c' rem seen hLk=>?_,λa b c' r s2 r' s2' h1 h2=>?_,by rw[hsize];exact h.ows,by rw[hsize];exact h.low,htr⟩
 ·obtain⟨q,y,h1,h2,h3⟩:=h.old i hi hin
  exact⟨q,y,by rw[A4i omz];exact h1,by rw[hne i omz omz];exact h2,Yl h3 (λop hop=>by rcases (hu op hop).2.2 with e | e<;>omega)⟩
 ·by_cases hkj:j=k
  ·subst hkj
   have e:(x.L.set j (c,vs',false))[j]?=some (c,vs',false):=A4x hj;rw[show(x.L.set j (c,vs',false))[j]?=some (c',rem,seen) from hLk] at e;cases e;rcases h.snd j c _ _ hL with⟨s',h1,h2,h3,h4,h5,h6,⟨a,b,h7⟩,h8⟩ | ⟨q,y,h1,_⟩
   ·rw[hs] at h1;cases h1
    refine .inl ⟨_,A4x hjc,h2,rfl,rfl,hX,(Keep.refl _ _ _).chg hC (hO (n0+j) s.O omz (h.ownS j s hs)) hLo,⟨_,_,heap_put h7⟩, .inl hJ⟩
   ·rw[hs] at h1;cases h1
  ·have hLk':x.L[k]?=some (c',rem,seen):=by rw[<-hLk];exact(A4i hkj).symm
   exact(h.snd k c' rem seen hLk').turn (A4i omz) (hne _ omz omz) hC (λs' hs'=>hO (n0+k) s'.O omz (h.ownS k s' hs')) hLo (λe=>hkj (h.dist j k c _ _ _ _ hL (e ▸ hLk'))) (λop hop _=>(hu op hop).1)
 ·by_cases hkj:k=j
  ·subst hkj
   rw[A4x hjc] at hs';cases hs';exact h.ownS k s hs b hb
  ·rw[A4i omz] at hs'
   exact h.ownS k s' hs' b hb
 ·obtain⟨r0,s0,e⟩:=A17 hL hLk
  exact h.chan k c' r0 s0 e
 ·obtain⟨r0,s0,e⟩:=A17 hL h1
  obtain⟨r0',s0',e'⟩:=A17 hL h2;exact h.dist a b c' _ _ _ _ e e'
theorem PhI.seen (h:PhI P Low n0 t₀ x ow comps gs w t)(hL:x.L[j]?=some (c,vs,false)){q:Nat}(hq:comps[n0+j]?=some (.inr q))(hr:g0.status=.running)(hsz:gs'.size=gs.size)(h0:gs'[0]?=some g0)
  (hne:∀l,l≠0->gs'[l]?=gs[l]?) (fn:FuncId) (pos:String):
  PhI P Low n0 t₀ ⟨x.O,x.L.set j (c,[],true),g0,w⟩ ow comps gs' w (t++#[{g:=0,fn,pos,act:=.recvClosed c}]):=by
 have hn:=h.pos;obtain⟨hj,hjg,hjc⟩:=h.lt hL;have hu:∀op∈(#[{g:=0,fn,pos,act:=.recvClosed c}]:Trace),op.g=0/\op.act.touch?=none/\op.act≠.mark .disable/\op.act≠.mark .enable:=by
  intro op hop;have:op={g:=0,fn,pos,act:=.recvClosed c}:=by simpa using hop
  subst this;exact⟨rfl,rfl,spz,spz⟩
 have htr:Tr Low n0 (x.L.set j (c,[],true)).length t₀ (t++#[{g:=0,fn,pos,act:=.recvClosed c}]) ow:=by
  rw[List.length_set];exact h.tr.silent λop hop=>⟨(hu op hop).2.1,λ_=>(hu op hop).2.2⟩
 obtain⟨hLo,hO⟩:=h.part (S:=λ_=>False) (k:=0) (λb hb=>hb.elim);refine⟨h.pos,by rw[hsz];exact h.len,h.c0,by rw[hsz];simpa using h.siz,hr,Keep.refl _ _ _, .inl h0,λi hi hin=>?_,λk c' rem seen hLk=>?_,h.own0,h.ownS,λk c' rem seen hLk=>?_,λa b c' r s2 r' s2' h1 h2=>?_,h.ows,h.low,htr⟩
 ·obtain⟨q,y,h1,h2,h3⟩:=h.old i hi hin
  exact⟨q,y,h1,by rw[hne i omz];exact h2,Yl h3 (λop hop=>by have:=(hu op hop).1;omega)⟩
 ·by_cases hkj:j=k
  ·subst hkj
   have e:(x.L.set j (c,[],true))[j]?=some (c,[],true):=A4x hj;rw[show(x.L.set j (c,[],true))[j]?=some (c',rem,seen) from hLk] at e;cases e;rcases h.snd j c _ _ hL with⟨s',h1,_⟩ | ⟨q,y,h1,h2,h3,h4,h5,h6,h7⟩
   ·rw[hq] at h1;cases h1
   ·exact .inr ⟨q,y,h1,by rw[hne _ omz];exact h2,h3,rfl,h5,h6.app (λop hop _=>(hu op hop).2.1),λ_=>h6.known h.tr.hears fn pos⟩
  ·have hLk':x.L[k]?=some (c',rem,seen):=by rw[<-hLk];exact(A4i hkj).symm
   exact(h.snd k c' rem seen hLk').turn rfl (hne _ omz) (Chg.same w) (λs' hs'=>hO (n0+k) s'.O omz (h.ownS k s' hs')) hLo id (λop hop _=>(hu op hop).2.1)
 ·obtain⟨r0,s0,e⟩:=A17 hL hLk
  exact h.chan k c' r0 s0 e
 ·obtain⟨r0,s0,e⟩:=A17 hL h1
  obtain⟨r0',s0',e'⟩:=A17 hL h2;exact h.dist a b c' _ _ _ _ e e'
theorem PhI.spawn (h:PhI P Low n0 t₀ x ow comps gs w t){g' child:Goroutine}(_h0:gs[0]?=some x.g)(hc:x.O c)(hr:g'.status=.running)(ho:Xy c w)(hX:Snd P Low ⟨c,λ_=>False,vs,child,w⟩)(fn fn':FuncId)(pos pos':String):
  PhI P Low n0 t₀ ⟨λb=>x.O b/\b≠c,x.L++[(c,vs,false)],g',w⟩ ow (comps++[.inl ⟨c,λ_=>False,vs,child,w⟩]) ((gs.setIfInBounds 0 g').push child) w (t++#[{g:=0,fn,pos,act:=.go gs.size},{g:=gs.size,fn:=fn',pos:=pos',act:=.start}]):=by
 have hn:=h.pos;have nH:=h.siz;have hlen:=h.len;have hlt:0<gs.size:=omz
 have htr:Tr Low n0 (x.L++[(c,vs,false)]).length t₀ (t++#[{g:=0,fn,pos,act:=.go gs.size},{g:=gs.size,fn:=fn',pos:=pos',act:=.start}]) ow:=by
  rw[A38,nH];exact h.tr.spawn fn fn' pos pos'
 have hu:∀op∈(#[{g:=0,fn,pos,act:=.go gs.size},{g:=gs.size,fn:=fn',pos:=pos',act:=.start}]:Trace),(op.g=0\/op.g=gs.size)/\op.act.touch?=none:=by
  intro op hop;have:op={g:=0,fn,pos,act:=.go gs.size}\/op={g:=gs.size,fn:=fn',pos:=pos',act:=.start}:=by simpa using hop
  rcases this with rfl | rfl
  ·exact⟨.inl rfl,rfl⟩
  ·exact⟨.inr rfl,rfl⟩
 have hg:∀l,l≠0->l<gs.size->((gs.setIfInBounds 0 g').push child)[l]?=gs[l]?:=λl hl hlt=>by
  rw[Array.getElem?_push_lt (by simpa using hlt)];rw[<-Array.getElem?_eq_getElem];exact Bj hl
 have hcm:∀l,l<comps.length->(comps++[.inl ⟨c,λ_=>False,vs,child,w⟩])[l]?=comps[l]?:=λl hl=>List.getElem?_append_left hl
 obtain⟨hLo,hO⟩:=h.part (S:=λ_=>False) (k:=0) (λb hb=>hb.elim);have ak:∀k c' rem seen,(x.L++[(c,vs,false)])[k]?=some (c',rem,seen)->(k<x.L.length/\x.L[k]?=some (c',rem,seen))\/(k=x.L.length/\c'=c/\rem=vs/\seen=false):=by
  intro k c' rem seen hk;rcases Nat.lt_or_ge k x.L.length with hlt | hge
  ·rw[List.getElem?_append_left hlt] at hk;exact .inl ⟨hlt,hk⟩
  ·rw[List.getElem?_append_right hge] at hk
   obtain⟨m,rfl⟩:∃m,k=x.L.length+m:=⟨k - x.L.length,omz⟩
   cases m with
   | zero=>simp at hk;exact .inr ⟨rfl,hk.1.symm,hk.2.1.symm,hk.2.2⟩
   | succ m=>simp at hk
 refine⟨h.pos,by simp[hlen],by rw[hcm 0 omz];exact h.c0,by simp[nH];omega,hr,Keep.refl _ _ _, .inl ?_,λi hi hin=>?_,λk c' rem seen hLk=>?_,λb hb=>h.own0 b hb.1,λk s' hs' b hb=>?_,λk c' rem seen hLk=>?_,λa b c' r s2 r' s2' h1 h2=>?_,h.ows,h.low,htr⟩
 ·rw[Array.getElem?_push_lt (by simpa using hlt)];simp
 ·obtain⟨q,y,h1,h2,h3⟩:=h.old i hi hin
  exact⟨q,y,by rw[hcm i omz];exact h1,by rw[hg i omz omz];exact h2,Yl h3 (λop hop=>by rcases (hu op hop).1 with e | e<;>omega)⟩
 ·rcases ak k c' rem seen hLk with⟨hk,hLk'⟩ | ⟨rfl,rfl,rfl,rfl⟩
  ·exact(h.snd k c' rem seen hLk').turn (hcm _ omz) (hg _ omz omz) (Chg.same w) (λs' hs'=>hO (n0+k) s'.O omz (h.ownS k s' hs')) hLo id (λop hop _=>(hu op hop).2)
  ·refine .inl ⟨_,?_,rfl,rfl,rfl,hX,Keep.refl _ _ _,ho, .inl ?_⟩
   ·rw[<-nH,<-hlen];simp
   ·rw[<-nH]
    have:gs.size=(gs.setIfInBounds 0 g').size:=spz
    rw[this];exact Array.getElem?_push_size
 ·rcases Nat.lt_or_ge (n0+k) comps.length with hlt | hge
  ·rw[hcm _ hlt] at hs'
   exact h.ownS k s' hs' b hb
  ·rw[List.getElem?_append_right hge] at hs'
   obtain⟨m,hm⟩:∃m,n0+k - comps.length=m:=⟨_,rfl⟩
   rw[hm] at hs';cases m with
   | zero=>simp at hs';subst hs';exact hb.elim
   | succ m=>simp at hs'
 ·rcases ak k c' rem seen hLk with⟨hk,hLk'⟩ | ⟨rfl,rfl,rfl,rfl⟩
  ·exact⟨(h.chan k c' rem seen hLk').1,λhb=>(h.chan k c' rem seen hLk').2 hb.1⟩
  ·exact⟨h.own0 _ hc,λhb=>hb.2 rfl⟩
 ·rcases ak a c' r s2 h1 with⟨ha,h1'⟩ | ⟨rfl,rfl,rfl,rfl⟩
  ·rcases ak b c' r' s2' h2 with⟨hb,h2'⟩ | ⟨rfl,rfl,rfl,rfl⟩
   ·exact h.dist a b c' _ _ _ _ h1' h2'
   ·exact absurd hc (h.chan a _ _ _ h1').2
  ·rcases ak b c' r' s2' h2 with⟨hb,h2'⟩ | ⟨rfl,_,rfl,rfl⟩
   ·exact absurd hc (h.chan b _ _ _ h2').2
   ·rfl
end
end Go.Co
namespace Go.Co
open Go.Conc
section
variable {c j k:Nat}{y':Goroutine}{z:Value}
variable {P : Program}{Low : Nat}{n0 : Nat}{t₀ : Trace}{x : RC}{ow : Nat -> Nat -> Prop}{comps iK : List (SC ⊕ Nat)}{gs gs' : Array Goroutine}{w w' : World}{t u : Trace}
theorem PhI.park0 (h:PhI P Low n0 t₀ x ow comps gs w t){vs:List Value}{s:SC}(hL:x.L[j]?=some (c,vs,false))(hs:comps[n0+j]?=some (.inl s))(hg:gs[n0+j]?=some s.g)
  (hst:stepG P true x.g w=.comm x.g #[rcase c z] true (.recv true) w #[]):PhI P Low n0 t₀ x ow comps (gs.setIfInBounds 0 (parked x.g #[rcase c z] (.recv true))) w t:=by
 have hn:=h.pos;have hlt:0<gs.size:=by have:=(h.lt hL).2.1;omega
 refine⟨h.pos,by simpa using h.len,h.c0,by simpa using h.siz,h.run,h.keep, .inr ⟨j,c,vs,z,w,hL,h.keep,hst, .inl ⟨by simp[hlt],s,hs,by rw[Bj omz];exact hg⟩⟩,λi hi hin=>?_,λk c' rem seen hLk=>?_,h.own0,h.ownS,h.chan,h.dist,h.ows,h.low,h.tr⟩
 ·obtain⟨q,y,h1,h2,h3⟩:=h.old i hi hin
  exact⟨q,y,h1,by rw[Bj omz];exact h2,h3⟩
 ·have e:(gs.setIfInBounds 0 (parked x.g #[rcase c z] (.recv true)))[n0+k]?=gs[n0+k]?:=Bj omz
  rcases h.snd k c' rem seen hLk with⟨s,h1,h2,h3,h4,h5,h6,h7,h8⟩ | ⟨q,y,h1,h2,h3,h4⟩
  ·exact .inl ⟨s,h1,h2,h3,h4,h5,h6,h7,by rw[e];exact h8⟩
  ·exact .inr ⟨q,y,h1,by rw[e];exact h2,h3,h4⟩
theorem PhI.parkJ (h:PhI P Low n0 t₀ x ow comps gs w t){rem:List Value}{v:Value}{s:SC}(hL:x.L[j]?=some (c,rem,false))(hs:comps[n0+j]?=some (.inl s))(hg:gs[n0+j]?=some s.g)
  (hno:∀z',gs[0]?≠some (parked x.g #[rcase c z'] (.recv true)))
  (hst:stepG P false s.g w=.comm s.g #[scase c v z] true .send w #[]):PhI P Low n0 t₀ x ow comps (gs.setIfInBounds (n0+j) (parked s.g #[scase c v z] .send)) w t:=by
 have hn:=h.pos;obtain⟨hj,hjg,hjc⟩:=h.lt hL;refine⟨h.pos,by simpa using h.len,h.c0,by simpa using h.siz,h.run,h.keep,?_,λi hi hin=>?_,λk c' rem seen hLk=>?_,h.own0,h.ownS,h.chan,h.dist,h.ows,h.low,h.tr⟩
 ·rcases h.zero with h0 | ⟨k,c',vs,z',w₀,a,b,c'',⟨d,s',e,f⟩ | ⟨d,e⟩⟩
  ·exact .inl (by rw[Bj omz];exact h0)
  ·have hkj:k≠j:=by
    rintro rfl;rw[hL] at a;cases a;exact hno z' d
   exact .inr ⟨k,c',vs,z',w₀,a,b,c'', .inl ⟨by rw[Bj omz];exact d,s',e,by rw[Bj omz];exact f⟩⟩
  ·exact .inr ⟨k,c',vs,z',w₀,a,b,c'', .inr ⟨by rw[Bj omz];exact d,e⟩⟩
 ·obtain⟨q,y,h1,h2,h3⟩:=h.old i hi hin
  exact⟨q,y,h1,by rw[Bj omz];exact h2,h3⟩
 ·by_cases hkj:k=j
  ·subst hkj
   rw[hL] at hLk;cases hLk;rcases h.snd k c _ _ hL with⟨s',h1,h2,h3,h4,h5,h6,h7,h8⟩ | ⟨q,y,h1,h2,h3,h4⟩
   ·rw[hs] at h1;cases h1
    exact .inl ⟨s,hs,h2,h3,h4,h5,h6,h7, .inr ⟨v,z,w,A40 hjg,h6,h7,hst⟩⟩
   ·rw[hs] at h1;cases h1
  ·have e:(gs.setIfInBounds (n0+j) (parked s.g #[scase c v z] .send))[n0+k]?=gs[n0+k]?:=Bj omz
   rcases h.snd k c' rem seen hLk with⟨s,h1,h2,h3,h4,h5,h6,h7,h8⟩ | ⟨q,y,h1,h2,h3,h4⟩
   ·exact .inl ⟨s,h1,h2,h3,h4,h5,h6,h7,by rw[e];exact h8⟩
   ·exact .inr ⟨q,y,h1,by rw[e];exact h2,h3,h4⟩
theorem PhI.close (h:PhI P Low n0 t₀ x ow comps gs w t){s:SC}{g':Goroutine}{n s1 r1:Nat}(hL:x.L[j]?=some (c,[],false))(hs:comps[n0+j]?=some (.inl s))(hc:w.heap[c]?=some (.chan 0 #[] false s1 r1 false))(hq:QuitsIn P n g')
  (hsz:gs'.size=gs.size) (hJ:gs'[n0+j]?=some g') (hne:∀l,l≠0->l≠n0+j->gs'[l]?=gs[l]?)
  (h0:(gs'[0]?=gs[0]?/\∀z,gs[0]?≠some (parked x.g #[rcase c z] (.recv true)))\/∃z,gs[0]?=some (parked x.g #[rcase c z] (.recv true))/\gs'[0]?=some {parked x.g #[rcase c z] (.recv true) with status:=.running}) (fn:FuncId) (pos:String):
  PhI P Low n0 t₀ x ow (comps.set (n0+j) (.inr n)) gs' (w.shut c s1 r1 false) (t++MemOp.ofEvents (n0+j) fn pos #[⟨.obj c,false,true⟩,⟨.obj c,true,true⟩]):=by
 have hn:=h.pos;obtain⟨hj,hjg,hjc⟩:=h.lt hL;have hC:Chg (λb=>b=c) w (w.shut c s1 r1 false):=Chg.put w c _;have hsh:Anb c (w.shut c s1 r1 false):=⟨s1,r1,heap_put hc⟩
 obtain⟨hLo,hO⟩:=h.part (S:=λb=>b=c) (k:=0) (by rintro b rfl;exact(h.chan j _ _ _ hL).1);have hx0:∀b,x.O b->b<w.heap.size/\¬b=c:=λb hb=>⟨h.ows.up _ _ (h.own0 b hb),λe=>(h.chan j _ _ _ hL).2 (e ▸ hb)⟩
 have hsize:(w.shut c s1 r1 false).heap.size=w.heap.size:=by simp[World.shut]
 obtain⟨htr,hcl⟩:=h.tr.close (k:=n0+j) (c:=c) h.ows ⟨j,hj,rfl⟩ fn pos;refine⟨h.pos,by rw[hsz];simpa using h.len,by rw[A4i omz];exact h.c0,by rw[hsz];exact h.siz,h.run,h.keep.chg hC hx0 hLo,?_,λi hi hin=>?_,λk c' rem seen hLk=>?_,h.own0,λk s' hs' b hb=>?_,h.chan,h.dist,by rw[hsize];exact h.ows,by rw[hsize];exact h.low,htr⟩
 ·rcases h.zero with h00 | ⟨k,c',vs,z',w₀,a,b,c'',⟨d,s',e,f⟩ | ⟨d,e⟩⟩
  ·rcases h0 with⟨h0,_⟩ | ⟨z,h0,_⟩
   ·exact .inl (by rw[h0];exact h00)
   ·rw[h00] at h0
    have:=congrArg Goroutine.status (Option.some.inj h0)
    rw[h.run] at this;cases this
  ·by_cases hkj:k=j
   ·subst hkj
    rw[hL] at a;cases a;rcases h0 with⟨_,h0⟩ | ⟨z,h0,h0'⟩
    ·exact absurd d (h0 z')
    ·rw[d] at h0
     have hz:z'=z:=by
      have:=congrArg Goroutine.offers (Option.some.inj h0)
      simp[parked,rcase] at this;exact this
     subst hz;exact .inr ⟨k,c,[],z',w₀,hL,b,c'', .inr ⟨h0',hsh⟩⟩
   ·have hcc:c'≠c:=λe=>hkj (h.dist k j c _ _ _ _ (e ▸ a) hL)
    rcases h0 with⟨h0,_⟩ | ⟨z,h0,h0'⟩
    ·exact .inr ⟨k,c',vs,z',w₀,a,b,c'', .inl ⟨by rw[h0];exact d,s',by rw[A4i omz];exact e,by rw[hne _ omz omz];exact f⟩⟩
    ·rw[d] at h0
     have:=congrArg Goroutine.offers (Option.some.inj h0)
     simp[parked,rcase] at this;exact absurd this.1 hcc
  ·rcases h0 with⟨h0,_⟩ | ⟨z,h0,h0'⟩
   ·have hkj:k≠j:=by
     rintro rfl;rw[hL] at a;cases a;obtain⟨a1,a2,e⟩:=e;rw[hc] at e;cases e
    have hcc:¬c'=c:=λe=>hkj (h.dist k j c _ _ _ _ (e ▸ a) hL)
    exact .inr ⟨k,c',vs,z',w₀,a,b,c'', .inr ⟨by rw[h0];exact d,e.chg hC hcc⟩⟩
   ·rw[d] at h0
    have:=congrArg Goroutine.status (Option.some.inj h0)
    simp[parked] at this
 ·obtain⟨q,y,h1,h2,h3⟩:=h.old i hi hin
  exact⟨q,y,by rw[A4i omz];exact h1,by rw[hne _ omz omz];exact h2,Yl h3 (Js omz)⟩
 ·by_cases hkj:k=j
  ·subst hkj
   rw[hL] at hLk;cases hLk;exact .inr ⟨n,g',A4x hjc,hJ,hq,rfl,hsh,hcl,λe=>by cases e⟩
  ·exact(h.snd k c' rem seen hLk).turn (A4i omz) (hne _ omz omz) hC (λs' hs'=>hO (n0+k) s'.O omz (h.ownS k s' hs')) hLo (λe=>hkj (h.dist k j c _ _ _ _ (e ▸ hLk) hL)) (λop hop e=>absurd e (Js omz op hop))
 ·by_cases hkj:k=j
  ·subst hkj
   rw[A4x hjc] at hs';cases hs'
  ·rw[A4i omz] at hs'
   exact h.ownS k s' hs' b hb
theorem PhI.slipOld (h:PhI P Low n0 t₀ x ow comps gs w t){i:Nat}{es:Array Event}(hi:0<i)(hin:i<n0)(hm:∀e∈es,Event.mute e=true)(hq:QuitsD P k (deafBehind (Deaf t i) es) y')(fn:FuncId)(pos:String):
  PhI P Low n0 t₀ x ow (comps.set i (.inr k)) (gs.setIfInBounds i y') w (t++MemOp.ofEvents i fn pos es):=by
 have nH:=h.siz;have hlen:=h.len;have htr:Tr Low n0 x.L.length t₀ (t++MemOp.ofEvents i fn pos es) ow:=h.tr.silent λop hop=>by
  obtain⟨e,he,rfl⟩:=Go.Conc.mem_ofEvents hop;exact⟨touch_mute (hm e he),λhg=>by rcases hg with hg | hg<;>(simp at hg;omega)⟩
 obtain⟨hLo,hO⟩:=h.part (S:=λ_=>False) (k:=0) (λb hb=>hb.elim);refine⟨h.pos,by simpa using h.len,by rw[A4i omz];exact h.c0,by simpa using h.siz,h.run,h.keep,?_,λl hl hln=>?_,λl c' rem seen hLk=>?_,h.own0,λl s' hs' b hb=>?_,h.chan,h.dist,h.ows,h.low,htr⟩
 ·rcases h.zero with h0 | ⟨k,c',vs,z',w₀,a,b,c'',⟨d,s',e,f⟩ | ⟨d,e⟩⟩
  ·exact .inl (by rw[Bj omz];exact h0)
  ·exact .inr ⟨k,c',vs,z',w₀,a,b,c'', .inl ⟨by rw[Bj omz];exact d,s',by rw[A4i omz];exact e,by rw[Bj omz];exact f⟩⟩
  ·exact .inr ⟨k,c',vs,z',w₀,a,b,c'', .inr ⟨by rw[Bj omz];exact d,e⟩⟩
 ·by_cases hli:i=l
  ·subst hli
   exact⟨k,y',A4x omz,A40 omz,by rw[Deaf_own];exact hq⟩
  ·obtain⟨q,y,h1,h2,h3⟩:=h.old l hl hln
   exact⟨q,y,by rw[A4i omz];exact h1,by rw[Bj omz];exact h2,Yl h3 (Js omz)⟩
 ·exact(h.snd l c' rem seen hLk).turn (A4i omz) (Bj omz) (Chg.same w) (λs' hs'=>hO (n0+l) s'.O (by have:=h.pos;omega) (h.ownS l s' hs')) hLo id (λop hop e=>absurd e (Js omz op hop))
 ·rw[A4i omz] at hs'
  exact h.ownS l s' hs' b hb
theorem PhI.slipJ (h:PhI P Low n0 t₀ x ow comps gs w t){q:Nat}{e:Nat × List Value × Bool}(hL:x.L[j]?=some e)(hs:comps[n0+j]?=some (.inr q))(hq:QuitsIn P k y'):
  PhI P Low n0 t₀ x ow (comps.set (n0+j) (.inr k)) (gs.setIfInBounds (n0+j) y') w t:=by
 have hn:=h.pos;obtain⟨hj,hjg,hjc⟩:=h.lt hL;refine⟨h.pos,by simpa using h.len,by rw[A4i omz];exact h.c0,by simpa using h.siz,h.run,h.keep,?_,λl hl hln=>?_,λl c' rem seen hLk=>?_,h.own0,λl s' hs' b hb=>?_,h.chan,h.dist,h.ows,h.low,h.tr⟩
 ·rcases h.zero with h0 | ⟨k,c',vs,z',w₀,a,b,c'',⟨d,s',e,f⟩ | ⟨d,e⟩⟩
  ·exact .inl (by rw[Bj omz];exact h0)
  ·have hkj:k≠j:=by
    rintro rfl;rw[hs] at e;cases e
   exact .inr ⟨k,c',vs,z',w₀,a,b,c'', .inl ⟨by rw[Bj omz];exact d,s',by rw[A4i omz];exact e,by rw[Bj omz];exact f⟩⟩
  ·exact .inr ⟨k,c',vs,z',w₀,a,b,c'', .inr ⟨by rw[Bj omz];exact d,e⟩⟩
 ·obtain⟨q,y,h1,h2,h3⟩:=h.old l hl hln
  exact⟨q,y,by rw[A4i omz];exact h1,by rw[Bj omz];exact h2,h3⟩
 ·by_cases hlj:l=j
  ·subst hlj
   rcases h.snd l c' rem seen hLk with⟨s,h1,_⟩ | ⟨q,y,h1,h2,h3,h4⟩
   ·rw[hs] at h1;cases h1
   ·exact .inr ⟨k,y',A4x hjc,A40 hjg,hq,h4⟩
  ·have e1:(comps.set (n0+j) (.inr k))[n0+l]?=comps[n0+l]?:=A4i omz
   have e2:(gs.setIfInBounds (n0+j) y')[n0+l]?=gs[n0+l]?:=Bj omz;rcases h.snd l c' rem seen hLk with⟨s,h1,h2,h3,h4,h5,h6,h7,h8⟩ | ⟨q,y,h1,h2,h3,h4⟩
   ·exact .inl ⟨s,by rw[e1];exact h1,h2,h3,h4,h5,h6,h7,by rw[e2];exact h8⟩
   ·exact .inr ⟨q,y,by rw[e1];exact h1,by rw[e2];exact h2,h3,h4⟩
 ·by_cases hlj:l=j
  ·subst hlj
   rw[A4x hjc] at hs';cases hs'
  ·rw[A4i omz] at hs'
   exact h.ownS l s' hs' b hb
end
end Go.Co
namespace Go.Co
open Go.Conc
section
variable {c i j l:Nat}{y:Goroutine}
variable {P : Program}{Low : Nat}{n0 : Nat}{t₀ : Trace}{x : RC}{ow : Nat -> Nat -> Prop}{comps : List (SC ⊕ Nat)}{gs : Array Goroutine}{w : World}{t : Trace}{sl : Option (Nat × Nat)}
def Reach (P:Program)(Stop:Goroutine->World->Prop)(tape:Nat->Question->Nat)(gs:Array Goroutine)(w:World)(sl:Option (Nat × Nat))(t:Trace):Prop:=
 ∃N gs' g' w' sl' t',runNT P N (crowd gs w sl) t=(.next (crowd gs' w' sl'),t')/\Frm P gs' t' g'/\w'.tape=tape/\Stop g' w'
theorem Reach.step {Stop:Goroutine->World->Prop}{tape:Nat->Question->Nat}{gs1:Array Goroutine}{w1:World}{sl1:Option (Nat × Nat)}{ops:Trace}(hst:stepT P (crowd gs w sl)=(.next (crowd gs1 w1 sl1),ops))(h:Reach P Stop tape gs1 w1 sl1 (t++ops)):Reach P Stop tape gs w sl t:=by
 obtain⟨N,gs',g',w',sl',t',hr,hF,ht,hs⟩:=h;exact⟨N+1,gs',g',w',sl',t',by simp only[runNT,hst];exact hr,hF,ht,hs⟩
theorem Zm (h:y.status=.running\/y.status=.finished):y.status≠.blocked:=by rcases h with h | h<;>rw[h]<;>simp
theorem PhI.offT (h:PhI P Low n0 t₀ x ow comps gs w t){vs:List Value}{sn:Bool}(hL:x.L[j]?=some (c,vs,sn))(hl:l≠n0+j)(hy:gs[l]?=some y):offersAt y c true=[]:=by
 have hlt:=(Array.getElem?_eq_some_iff.1 hy).1;rcases Nat.eq_zero_or_pos l with rfl | hpos
 ·rcases h.zero with h0 | ⟨k,c',vs,z,w₀,_,_,_,⟨h0,_⟩ | ⟨h0,_⟩⟩
  ·rw[h0] at hy;cases hy;exact offersAt_of_not_blocked (Zm (.inl h.run)) _ _
  ·rw[h0] at hy;cases hy;exact offersAt_parked_recv' _ _ _ _ _
  ·rw[h0] at hy;cases hy;exact offersAt_of_not_blocked (Zm (.inl rfl)) _ _
 ·rcases Nat.lt_or_ge l n0 with hn | hn
  ·obtain⟨q,y',_,h2,h3⟩:=h.old l hpos hn
   rw[hy] at h2;cases h2;exact offersAt_of_not_blocked (Zm h3.status) _ _
  ·obtain⟨k,rfl⟩:∃k,l=n0+k:=⟨l - n0,omz⟩
   have hk:k<x.L.length:=by have:=h.siz;omega
   obtain⟨⟨c',rem,seen⟩,hLk⟩:∃e,x.L[k]?=some e:=⟨_,A4p hk⟩
   rcases h.snd k c' rem seen hLk with⟨s,_,_,_,_,bW,_,ho,h1 | ⟨v,z,w₀,h1,_⟩⟩ | ⟨q,y',_,h2,h3,_⟩
   ·rw[h1] at hy;cases hy;exact offersAt_of_not_blocked (Zm (.inl bW.inv.1)) _ _
   ·rw[h1] at hy;cases hy
    rw[offersAt_parked_send,if_neg];rintro rfl;exact hl (by rw[h.dist k j _ _ _ _ _ hLk hL])
   ·rw[h2] at hy;cases hy;exact offersAt_of_not_blocked (Zm h3.status) _ _
theorem PhI.offF (h:PhI P Low n0 t₀ x ow comps gs w t)(hl:l≠0)(hy:gs[l]?=some y):offersAt y c false=[]:=by
 have hlt:=(Array.getElem?_eq_some_iff.1 hy).1;rcases Nat.lt_or_ge l n0 with hn | hn
 ·obtain⟨q,y',_,h2,h3⟩:=h.old l omz hn
  rw[hy] at h2;cases h2;exact offersAt_of_not_blocked (Zm h3.status) _ _
 ·obtain⟨k,rfl⟩:∃k,l=n0+k:=⟨l - n0,omz⟩
  have hk:k<x.L.length:=by have:=h.siz;omega
  obtain⟨⟨c',rem,seen⟩,hLk⟩:∃e,x.L[k]?=some e:=⟨_,A4p hk⟩
  rcases h.snd k c' rem seen hLk with⟨s,_,_,_,_,bW,_,ho,h1 | ⟨v,z,w₀,h1,_⟩⟩ | ⟨q,y',_,h2,h3,_⟩
  ·rw[h1] at hy;cases hy;exact offersAt_of_not_blocked (Zm (.inl bW.inv.1)) _ _
  ·rw[h1] at hy;cases hy;exact offersAt_parked_send' _ _ _ _ _ _
  ·rw[h2] at hy;cases hy;exact offersAt_of_not_blocked (Zm h3.status) _ _
theorem Ac6 {b:Bool}(h:∀l y,l≠i->gs[l]?=some y->offersAt y c b=[]):partners (gs.setIfInBounds i ph) c b=[]:=by
 refine partners_nil λl y hy=>?_
 rcases getElem?_stand gs i l y hy with⟨_,rfl⟩ | ⟨hl,hy'⟩
 ·exact offersAt_ph _ _
 ·exact h l y hl hy'
theorem Anp {b:Bool}{g:Goroutine}(hij:j≠i)(hj:gs[j]?=some g)(ho:offersAt g c b=[0])(h:∀l y,l≠i->l≠j->gs[l]?=some y->offersAt y c b=[]):partners (gs.setIfInBounds i ph) c b=[(j,0)]:=by
 rw[partners_one (stand_get hij hj) λl y hl hy=>?_,ho]
 ·rfl
 ·rcases getElem?_stand gs i l y hy with⟨_,rfl⟩ | ⟨hl',hy'⟩
  ·exact offersAt_ph _ _
  ·exact h l y hl' hl hy'
theorem PhI.ends (h:PhI P Low n0 t₀ x ow comps gs w t)(hall:∀e∈x.L,e.2.2=true):Frm P gs t x.g:=by
 have hsn:∀(j c:Nat) (vs:List Value) (b:Bool),x.L[j]?=some (c,vs,b)->b=true:=λj c vs b hL=>hall _ (List.mem_of_getElem? hL)
 have hS:∀j,j<x.L.length->∃q y,gs[n0+j]?=some y/\QuitsIn P q y/\Y4 t (n0+j):=by
  intro j hj;obtain⟨⟨c',rem,seen⟩,hLk⟩:∃e,x.L[j]?=some e:=⟨_,A4p hj⟩
  obtain rfl:=hsn _ _ _ _ hLk;rcases h.snd j c' rem true hLk with⟨s,_,_,_,e,_⟩ | ⟨q,y',_,h2,h3,_,_,_,h7⟩
  ·cases e
  ·exact⟨q,y',h2,h3,h7 rfl⟩
 refine⟨?_,?_,h.tr.past λj hj=>(hS j hj).choose_spec.choose_spec.2.2⟩
 ·rcases h.zero with h0 | ⟨k,c',vs,z,w₀,a,_⟩
  ·exact h0
  ·have:=hsn _ _ _ _ a;cases this
 ·have hex:∀i,0<i->i<gs.size->∃q,∀y,gs[i]?=some y->QuitsD P q (Deaf t i) y:=by
   intro i hi hlt;rcases Nat.lt_or_ge i n0 with hn | hn
   ·obtain⟨q,y',_,h2,h3⟩:=h.old i hi hn
    exact⟨q,λy hy=>by rw[hy] at h2;cases h2;exact h3⟩
   ·obtain⟨k,rfl⟩:∃k,i=n0+k:=⟨i - n0,omz⟩
    obtain⟨q,y',h2,h3,_⟩:=hS k (by have:=h.siz;omega);exact⟨q,λy hy=>by rw[hy] at h2;cases h2;rw[h.tr.hearS _ hn];exact QuitsD.of_quitsIn h3⟩
  classical
  refine⟨λi=>if hi:0<i/\i<gs.size then(hex i hi.1 hi.2).choose else 0,λi y hi hy=>?_,λj hj=>h.tr.hearS j (by have:=h.siz;omega)⟩;have hlt:=(Array.getElem?_eq_some_iff.1 hy).1;simp only[hi,hlt,and_self,dite_true];exact(hex i hi hlt).choose_spec y hy
end
end Go.Co
