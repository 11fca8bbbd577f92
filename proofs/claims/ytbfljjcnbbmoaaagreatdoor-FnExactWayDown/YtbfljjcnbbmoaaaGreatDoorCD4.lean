import Derived.Test.YtbfljjcnbbmoaaaGreatDoorCD2
namespace Go.Co
open Go.Conc
open Go.ConcN (sumTo upd sumTo_upd upd_ne upd_same)
variable {Low c:Nat}{w':World}{y:Goroutine}
structure Chg (S:Nat->Prop)(w w':World):Prop where
 rest:∀b,b<w.heap.size->¬S b->w'.heap[b]?=w.heap[b]?
 size:w.heap.size<=w'.heap.size
 tape:w'.tape=w.tape
 os:w'.os=w.os
 out:w'.output=w.output
theorem Anc.chg {O:Nat->Prop}{w:World}{es:Array Event}(h:Anc Low O w w' es):Chg O w w':=⟨h.rest,h.size,h.tape,h.os,h.out⟩
theorem Chg.put (w:World)(c:Nat)(o:Obj):Chg (λb=>b=c) w {w with heap:=w.heap.setIfInBounds c o}:=
 ⟨λb _ hn=>Array.getElem?_setIfInBounds_ne (λe=>hn e.symm),spz,rfl,rfl,rfl⟩
theorem Keep.chg {O S:Nat->Prop}{wb w:World}(h:Keep Low O wb w)(hc:Chg S w w')(hO:∀b,O b->b<w.heap.size/\¬S b)(hL:∀b,b<Low->b<w.heap.size/\¬S b):Keep Low O wb w':=
 ⟨λb hb=>(hc.rest b (hL b hb).1 (hL b hb).2).trans (h.still b hb),λb hb=>(hc.rest b (hO b hb).1 (hO b hb).2).trans (h.mine b hb),A4k h.size hc.size,hc.tape.trans h.tape,hc.os.trans h.os,hc.out.trans h.out⟩
theorem Xy.chg {S:Nat->Prop}{w:World}(h:Xy c w)(hc:Chg S w w')(hS:¬S c):Xy c w':=by
 obtain⟨s,r,e⟩:=h;have hlt:=(Array.getElem?_eq_some_iff.1 e).1;exact⟨s,r,(hc.rest c hlt hS).trans e⟩
theorem Anb.chg {S:Nat->Prop}{w:World}(h:Anb c w)(hc:Chg S w w')(hS:¬S c):Anb c w':=by
 obtain⟨s,r,e⟩:=h;have hlt:=(Array.getElem?_eq_some_iff.1 e).1;exact⟨s,r,(hc.rest c hlt hS).trans e⟩
def Qt (w:World)(y:Goroutine):Prop:=
 (y.status=.running\/y.status=.finished)\/(∃g c z sh,y=parked g #[rcase c z] sh/\Xy c w)\/∃g c v z sh,y=parked g #[scase c v z] sh/\Xy c w
theorem Qt.woken {P:Program}{w:World}{a a':Goroutine}(h:Qt w y):woken P a a' w y=y:=by
 rcases h with h | ⟨g,c,z,sh,rfl,s,r,hc⟩ | ⟨g,c,v,z,sh,rfl,s,r,hc⟩
 ·unfold Conc.woken
  split
  ·exact again_running _ h
  ·rfl
 ·exact woken_recv_open a a' hc
 ·exact woken_send_open a a' hc
theorem Qt.awake {w:World}(h:Qt w y):awake y:=by
 intro t ht;rcases h with h | ⟨g,c,z,sh,rfl,_⟩ | ⟨g,c,v,z,sh,rfl,_⟩
 ·rcases h with h | h<;>rw[h] at ht<;>cases ht
 ·cases ht
 ·cases ht
theorem Xj {gs:Array Goroutine}{i:Nat}{f:Goroutine->Goroutine}{g':Goroutine}(h:∀l y,l≠i->gs[l]?=some y->f y=y):(gs.map f).setIfInBounds i g'=gs.setIfInBounds i g':=by
 apply Array.ext_getElem?;intro l;by_cases hl:i=l
 ·subst hl
  by_cases hlt:i<gs.size
  ·rw[A40 (by simpa using hlt),A40 hlt]
  ·rw[Array.getElem?_eq_none (by simpa using hlt),Array.getElem?_eq_none (by simpa using hlt)]
 ·rw[Array.getElem?_setIfInBounds_ne hl,Array.getElem?_setIfInBounds_ne hl,Array.getElem?_map]
  cases hx:gs[l]? with
  | none=>rfl
  | some y=>simp[h l y (λe=>hl e.symm) hx]
def cnt:List Goroutine->Nat
 | []=>0
 | g::l=>(if g.status=.blocked then 0 else 1)+cnt l
theorem Awi:∀{l:List Goroutine} {i:Nat} {x y:Goroutine},l[i]?=some x->x.status≠.blocked->y.status=.blocked->cnt (l.set i y)<cnt l:=by
 intro l;induction l with
 | nil=>intro i x y h;simp at h
 | cons a l ih=>
  intro i x y h hx hy;cases i with
  | zero=>
   simp at h;subst h;simp only[List.set_cons_zero,cnt,hy,if_true,hx,if_false];omega
  | succ i=>
   simp at h;have:=ih h hx hy
   simp only[List.set_cons_succ,cnt];omega
section
variable (P : Program)(Low : Nat)(n0 : Nat)(t₀ : Trace)
def Aze (comps:List (SC ⊕ Nat))(gs:Array Goroutine)(w:World)(t:Trace)(j c:Nat)(rem:List Value)(seen:Bool):Prop:=
 (∃s,comps[n0+j]?=some (.inl s)/\s.c=c/\rem=s.vs/\seen=false/\Snd P Low s/\Keep Low s.O s.w w/\Xy c w/\
  (gs[n0+j]?=some s.g\/∃v z w₀,gs[n0+j]?=some (parked s.g #[scase c v z] .send)/\Keep Low s.O s.w w₀/\Xy c w₀/\stepG P false s.g w₀=.comm s.g #[scase c v z] true .send w₀ #[]))\/
 (∃q y,comps[n0+j]?=some (.inr q)/\gs[n0+j]?=some y/\QuitsIn P q y/\rem=[]/\Anb c w/\Vd t (n0+j) c/\(seen=true->Y4 t (n0+j)))
structure PhI (x:RC)(ow:Nat->Nat->Prop)(comps:List (SC ⊕ Nat))(gs:Array Goroutine)(w:World)(t:Trace):Prop where
 pos:0<n0
 len:comps.length=gs.size
 c0:comps[0]?=some (.inr 0)
 siz:gs.size=n0+x.L.length
 run:x.g.status=.running
 keep:Keep Low x.O x.w w
 zero:gs[0]?=some x.g\/∃(j c:Nat) (vs:List Value) (z:Value) (w₀:World),x.L[j]?=some (c,vs,false)/\Keep Low x.O x.w w₀/\stepG P true x.g w₀=.comm x.g #[rcase c z] true (.recv true) w₀ #[]/\
  ((gs[0]?=some (parked x.g #[rcase c z] (.recv true))/\∃s,comps[n0+j]?=some (.inl s)/\gs[n0+j]?=some s.g)\/(gs[0]?=some {parked x.g #[rcase c z] (.recv true) with status:=.running}/\Anb c w))
 old:∀i,0<i->i<n0->∃q y,comps[i]?=some (.inr q)/\gs[i]?=some y/\QuitsD P q (Deaf t i) y
 snd:∀(j c:Nat) (rem:List Value) (seen:Bool),x.L[j]?=some (c,rem,seen)->Aze P Low n0 comps gs w t j c rem seen
 own0:∀b,x.O b->ow 0 b
 ownS:∀j s,comps[n0+j]?=some (.inl s)->∀b,s.O b->ow (n0+j) b
 chan:∀(j c:Nat) (rem:List Value) (seen:Bool),x.L[j]?=some (c,rem,seen)->ow 0 c/\¬x.O c
 dist:∀(j k c:Nat) (r:List Value) (s:Bool) (r':List Value) (s':Bool),x.L[j]?=some (c,r,s)->x.L[k]?=some (c,r',s')->j=k
 ows:Ow Low ow w.heap.size
 low:Low<=w.heap.size
 tr:Tr Low n0 x.L.length t₀ t ow
end
section
variable {P : Program}{Low : Nat}{n0 : Nat}{t₀ : Trace}{x : RC}{ow : Nat -> Nat -> Prop}{comps : List (SC ⊕ Nat)}{gs : Array Goroutine}{w : World}{t : Trace}
theorem PhI.qt (h:PhI P Low n0 t₀ x ow comps gs w t):∀(i:Nat) (y:Goroutine),gs[i]?=some y->Qt w y:=by
 intro i y hy;have hlt:=(Array.getElem?_eq_some_iff.1 hy).1;rcases Nat.eq_zero_or_pos i with rfl | hpos
 ·rcases h.zero with h0 | ⟨j,c,vs,z,w₀,hL,_,_,⟨h0,s,hs,_⟩ | ⟨h0,_⟩⟩
  ·rw[h0] at hy;cases hy;exact .inl (.inl h.run)
  ·rw[h0] at hy;cases hy
   refine .inr (.inl ⟨_,c,z,_,rfl,?_⟩);rcases h.snd j c vs false hL with⟨s',hs',_,_,_,_,_,ho,_⟩ | ⟨q,y',hs',_⟩
   ·exact ho
   ·rw[hs] at hs';cases hs'
  ·rw[h0] at hy;cases hy;exact .inl (.inl rfl)
 ·rcases Nat.lt_or_ge i n0 with hn | hn
  ·obtain⟨q,y',_,h2,h3⟩:=h.old i hpos hn
   rw[hy] at h2;cases h2;exact .inl h3.status
  ·obtain⟨j,rfl⟩:∃j,i=n0+j:=⟨i - n0,omz⟩
   have hj:j<x.L.length:=by have:=h.siz;omega
   obtain⟨⟨c,rem,seen⟩,hL⟩:∃e,x.L[j]?=some e:=⟨_,A4p hj⟩
   rcases h.snd j c rem seen hL with⟨s,_,_,_,_,bW,_,ho,h1 | ⟨v,z,w₀,h1,_⟩⟩ | ⟨q,y',_,h2,h3,_⟩
   ·rw[h1] at hy;cases hy;exact .inl (.inl bW.inv.1)
   ·rw[h1] at hy;cases hy;exact .inr (.inr ⟨_,c,v,z,_,rfl,ho⟩)
   ·rw[h2] at hy;cases hy;exact .inl h3.status
theorem PhI.runs (h:PhI P Low n0 t₀ x ow comps gs w t):∃(i:Nat) (y:Goroutine),gs[i]?=some y/\y.status=.running:=by
 rcases h.zero with h0 | ⟨j,c,vs,z,w₀,hL,_,_,⟨h0,s,hs,hs2⟩ | ⟨h0,_⟩⟩
 ·exact⟨0,_,h0,h.run⟩
 ·rcases h.snd j c vs false hL with⟨s',hs',_,_,_,bW,_,_,_⟩ | ⟨q,y',hs',_⟩
  ·rw[hs] at hs';cases hs';exact⟨_,_,hs2,bW.inv.1⟩
  ·rw[hs] at hs';cases hs'
 ·exact⟨0,_,h0,rfl⟩
theorem PhI.at (h:PhI P Low n0 t₀ x ow comps gs w t)(d:Nat):PhI P Low n0 t₀ x ow comps gs (w.at d) t:=
 ⟨h.pos,h.len,h.c0,h.siz,h.run,h.keep.at d,h.zero,h.old,λj c rem seen hL=>(h.snd j c rem seen hL).imp (λ⟨s,a,b,c,d',e,f,g,i⟩=>⟨s,a,b,c,d',e,f.at d,g,i⟩) id,h.own0,h.ownS,h.chan,h.dist,h.ows,h.low,h.tr⟩
theorem PhI.acc (h:PhI P Low n0 t₀ x ow comps gs w t):Acc (RL (A3d P Low)) comps:=by
 refine RL.acc λy hy=>?_
 obtain⟨i,hi⟩:=List.mem_iff_getElem?.1 hy;have hlt:i<comps.length:=by
  exact(List.getElem?_eq_some_iff.1 hi).1
 rcases Nat.eq_zero_or_pos i with rfl | hpos
 ·rw[h.c0] at hi
  cases hi;exact U3 P Low 0
 ·rcases Nat.lt_or_ge i n0 with hn | hn
  ·obtain⟨q,y',h1,_⟩:=h.old i hpos hn
   rw[h1] at hi;cases hi;exact U3 P Low q
  ·obtain⟨j,rfl⟩:∃j,i=n0+j:=⟨i - n0,omz⟩
   have hj:j<x.L.length:=by have:=h.siz;have:=h.len;omega
   obtain⟨⟨c,rem,seen⟩,hL⟩:∃e,x.L[j]?=some e:=⟨_,A4p hj⟩
   rcases h.snd j c rem seen hL with⟨s,h1,_,_,_,bW,_⟩ | ⟨q,y',h1,_⟩
   ·rw[h1] at hi;cases hi;exact Amq bW.acc
   ·rw[h1] at hi;cases hi;exact U3 P Low q
end
end Go.Co
namespace Go.Co
open Go.Conc
section
variable {es:Array Event}{g':Goroutine}{i j k:Nat}
variable {P : Program}{Low : Nat}{n0 : Nat}{t₀ : Trace}{x : RC}{ow : Nat -> Nat -> Prop}{comps iK : List (SC ⊕ Nat)}{gs gs' : Array Goroutine}{w w' : World}{t u : Trace}
theorem Aze.turn {S:Nat->Prop}{c:Nat}{rem:List Value}{seen:Bool}(h:Aze P Low n0 comps gs w t j c rem seen)(hc:iK[n0+j]?=comps[n0+j]?)(hg:gs'[n0+j]?=gs[n0+j]?)(hS:Chg S w w')
  (hO:∀s,comps[n0+j]?=some (.inl s)->∀b,s.O b->b<w.heap.size/\¬S b) (hL:∀b,b<Low->b<w.heap.size/\¬S b) (hcS:¬S c) (hu:∀op∈u,op.g=n0+j->op.act.touch?=none):Aze P Low n0 iK gs' w' (t++u) j c rem seen:=by
 rcases h with⟨s,h1,h2,h3,h4,h5,h6,h7,h8⟩ | ⟨q,y,h1,h2,h3,h4,h5,h6,h7⟩
 ·exact .inl ⟨s,by rw[hc];exact h1,h2,h3,h4,h5,h6.chg hS (hO s h1) hL,h7.chg hS hcS,by rw[hg];exact h8⟩
 ·exact .inr ⟨q,y,by rw[hc];exact h1,by rw[hg];exact h2,h3,h4,h5.chg hS hcS,h6.app hu,λhs=>(h7 hs).app hu⟩
theorem PhI.part (h:PhI P Low n0 t₀ x ow comps gs w t){S:Nat->Prop}(hS:∀b,S b->ow k b):
  (∀b,b<Low->b<w.heap.size/\¬S b)/\(∀(l:Nat) (O:Nat->Prop),l≠k->(∀b,O b->ow l b)->∀b,O b->b<w.heap.size/\¬S b):=
 ⟨λb hb=>⟨A37 hb h.low,λhs=>Nat.not_lt.2 (h.ows.low _ _ (hS b hs)) hb⟩,λ_l _O hl hO b hb=>⟨h.ows.up _ _ (hO b hb),λhs=>hl (h.ows.apart _ _ _ (hO b hb) (hS b hs))⟩⟩
def Anq (ow:Nat->Nat->Prop)(k:Nat)(w w':World):Nat->Nat->Prop:=λl b=>ow l b\/(l=k/\w.heap.size<=b/\b<w'.heap.size)
theorem Ow.grow (h:Ow Low ow w.heap.size)(k:Nat)(hs:w.heap.size<=w'.heap.size)(hl:Low<=w.heap.size):Ow Low (Anq ow k w w') w'.heap.size:=by
 refine⟨λa b c h1 h2=>?_,λa b h1=>?_,λa b h1=>?_⟩
 ·rcases h1 with h1 | ⟨rfl,h1,_⟩<;>rcases h2 with h2 | ⟨rfl,h2,_⟩
  ·exact h.apart _ _ _ h1 h2
  ·exact absurd (h.up _ _ h1) omz
  ·exact absurd (h.up _ _ h2) omz
  ·rfl
 ·rcases h1 with h1 | ⟨rfl,h1,_⟩
  ·exact h.low _ _ h1
  ·omega
 ·rcases h1 with h1 | ⟨rfl,h1,h2⟩
  ·exact A37 (h.up _ _ h1) hs
  ·exact h2
theorem Azo {m:Nat}{O:Nat->Prop}(h:Tr Low n0 m t₀ t ow)(hO:Ow Low ow w.heap.size)(hl:Low<=w.heap.size)(hk:k=0\/∃j,j<m/\k=n0+j)(hS:Anc Low O w w' es)(ho:∀b,O b->ow k b)(fn:FuncId)(pos:String):
  Tr Low n0 m t₀ (t++MemOp.ofEvents k fn pos es) (Anq ow k w w'):=by
 refine(h.wider λa b hb=>.inl hb).app (hO.grow k hS.size hl) hk (λop hop=>by obtain⟨e,_,rfl⟩:=Go.Conc.mem_ofEvents hop;rfl) (λop hop a ha _=>?_) λt=>?_
 ·obtain⟨e,he,rfl⟩:=Go.Conc.mem_ofEvents hop
  rcases hS.ev e he with⟨ad,wr,rfl,hb⟩ | rfl
  case inr=>simp[MemAct.ofEvent,MemAct.touch?] at ha
  simp[MemAct.ofEvent,MemAct.touch?] at ha;subst ha;refine .inl ⟨ad,wr,rfl,hb.imp (λhb=>?_) id⟩;rcases hb with hb | ⟨h1,h2⟩
  ·exact .inl (ho _ hb)
  ·exact .inr ⟨rfl,h1,h2⟩
 ·rw[Deaf_own]
  exact deafBehind_still (λe he=>by rcases hS.ev e he with⟨ad,wr,rfl,_⟩ | rfl<;>simp) _
theorem Yl {q:Nat}{y:Goroutine}(h:QuitsD P q (Deaf t i) y)(hu:∀op∈u,op.g≠i):QuitsD P q (Deaf (t++u) i) y:=by
 have:Deaf (t++u) i=Deaf t i:=by
  obtain⟨l⟩:=u;rw[Deaf_append];induction l generalizing t with
  | nil=>rfl
  | cons y l ih=>
   have hy:=hu y spz;have e1:deafStep i (Deaf t i) y=Deaf t i:=by unfold deafStep;split<;>simp[hy]
   rw[List.foldl_cons,e1];exact ih h λop hop=>hu op (by simp at hop ⊢;exact .inr hop)
 rw[this];exact h
theorem Bj {l:Nat}{g:Goroutine}(h:l≠i):(gs.setIfInBounds i g)[l]?=gs[l]?:=Array.getElem?_setIfInBounds_ne (λe=>h e.symm)
theorem Js {fn:FuncId}{pos:String}(h:k≠i):∀op∈MemOp.ofEvents k fn pos es,op.g≠i:=λop hop=>by obtain⟨e,_,rfl⟩:=Go.Conc.mem_ofEvents hop;exact h
theorem PhI.own0' (h:PhI P Low n0 t₀ x ow comps gs w t)(h0:gs[0]?=some x.g)(hr:g'.status=.running)(hS:Anc Low x.O w w' es)(fn:FuncId)(pos:String):
  PhI P Low n0 t₀ ⟨grown x.O w w',x.L,g',w'⟩ (Anq ow 0 w w') comps (gs.setIfInBounds 0 g') w' (t++MemOp.ofEvents 0 fn pos es):=by
 have hlt:=(Array.getElem?_eq_some_iff.1 h0).1;obtain⟨hL,hO⟩:=h.part (S:=x.O) (k:=0) h.own0;have hn:=h.pos;refine⟨h.pos,by simpa using h.len,h.c0,by simpa using h.siz,hr,Keep.refl _ _ _, .inl (by simp[hlt]),λi hi hin=>?_,λj c rem seen mO=>?_,λb hb=>?_,λj s hs b hb=>.inl (h.ownS j s hs b hb),λj c rem seen mO=>?_,h.dist,h.ows.grow 0 hS.size h.low,A4k h.low hS.size,Azo h.tr h.ows h.low (.inl rfl) hS h.own0 fn pos⟩
 ·obtain⟨q,y,h1,h2,h3⟩:=h.old i hi hin
  exact⟨q,y,h1,by rw[Bj omz];exact h2,Yl h3 (Js omz)⟩
 ·exact(h.snd j c rem seen mO).turn rfl (Bj omz) hS.chg (λs hs=>hO (n0+j) s.O omz (h.ownS j s hs)) hL (h.chan j c rem seen mO).2 (λop hop e=>absurd e (Js omz op hop))
 ·exact hb.imp (h.own0 b) λ⟨a,b⟩=>⟨rfl,a,b⟩
 ·obtain⟨h1,h2⟩:=h.chan j c rem seen mO
  refine⟨.inl h1,λhb=>?_⟩;rcases hb with hb | ⟨hb,_⟩
  ·exact h2 hb
  ·exact absurd (h.ows.up _ _ h1) omz
theorem PhI.ownJ (h:PhI P Low n0 t₀ x ow comps gs w t){s:SC}(hj:j<x.L.length)(hs:comps[n0+j]?=some (.inl s))(hg:gs[n0+j]?=some s.g)(_hr:g'.status=.running)(hS:Anc Low s.O w w' es)
  (hX:Snd P Low ⟨s.c,grown s.O w w',s.vs,g',w'⟩) (fn:FuncId) (pos:String):
  PhI P Low n0 t₀ x (Anq ow (n0+j) w w') (comps.set (n0+j) (.inl ⟨s.c,grown s.O w w',s.vs,g',w'⟩)) (gs.setIfInBounds (n0+j) g') w' (t++MemOp.ofEvents (n0+j) fn pos es):=by
 have hlt:=(Array.getElem?_eq_some_iff.1 hg).1;have hlc:n0+j<comps.length:=by rw[h.len];exact hlt
 obtain⟨hL,hO⟩:=h.part (S:=s.O) (k:=n0+j) (h.ownS j s hs);have hn:=h.pos;have hch:∀j' c rem seen,x.L[j']?=some (c,rem,seen)->¬s.O c:=λj' c rem seen hL' hb=>by
  have:=h.ows.apart _ _ _ (h.chan j' c rem seen hL').1 (h.ownS j s hs c hb)
  omega
 refine⟨h.pos,by simpa using h.len,by rw[A4i omz];exact h.c0,by simpa using h.siz,h.run,h.keep.chg hS.chg (hO 0 x.O omz h.own0) hL,?_,λi hi hin=>?_,λj' c rem seen mO=>?_,λb hb=>.inl (h.own0 b hb),λj' s' hs' b hb=>?_,λj' c rem seen mO=>⟨.inl (h.chan j' c rem seen mO).1,(h.chan j' c rem seen mO).2⟩,h.dist,h.ows.grow _ hS.size h.low,A4k h.low hS.size,Azo h.tr h.ows h.low (.inr ⟨j,hj,rfl⟩) hS (h.ownS j s hs) fn pos⟩
 ·rcases h.zero with h0 | ⟨k,c,vs,z,w₀,a,b,c',⟨d,s',e,f⟩ | ⟨d,e⟩⟩
  ·exact .inl (by rw[Bj omz];exact h0)
  ·refine .inr ⟨k,c,vs,z,w₀,a,b,c', .inl ⟨by rw[Bj omz];exact d,?_⟩⟩
   by_cases hkj:k=j
   ·subst hkj
    exact⟨_,A4x hlc,A40 hlt⟩
   ·exact⟨s',by rw[A4i omz];exact e,by rw[Bj omz];exact f⟩
  ·exact .inr ⟨k,c,vs,z,w₀,a,b,c', .inr ⟨by rw[Bj omz];exact d,e.chg hS.chg (hch k c vs false a)⟩⟩
 ·obtain⟨q,y,h1,h2,h3⟩:=h.old i hi hin
  exact⟨q,y,by rw[A4i omz];exact h1,by rw[Bj omz];exact h2,Yl h3 (Js omz)⟩
 ·by_cases hjj:j'=j
  ·subst hjj
   rcases h.snd j' c rem seen mO with⟨s',h1,h2,h3,h4,h5,h6,h7,h8⟩ | ⟨q,y,h1,_⟩
   ·rw[hs] at h1;cases h1
    exact .inl ⟨_,A4x hlc,h2,h3,h4,hX,Keep.refl _ _ _,h7.chg hS.chg (hch j' c rem seen mO), .inl (A40 hlt)⟩
   ·rw[hs] at h1;cases h1
  ·exact(h.snd j' c rem seen mO).turn (A4i omz) (Bj omz) hS.chg (λs' hs'=>hO (n0+j') s'.O omz (h.ownS j' s' hs')) hL (hch j' c rem seen mO) (λop hop e=>absurd e (Js omz op hop))
 ·by_cases hjj:j'=j
  ·subst hjj
   rw[A4x hlc] at hs';cases hs';exact hb.imp (h.ownS j' s hs b) λ⟨a,b⟩=>⟨rfl,a,b⟩
  ·rw[A4i omz] at hs'
   exact .inl (h.ownS j' s' hs' b hb)
end
end Go.Co
