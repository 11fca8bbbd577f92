import Derived.Test.YtmnnkedjoecehaaGreatDoorCD2
set_option linter.defProp false
namespace Go.Co
open Go.Conc
open Go.ConcN (sumTo upd sumTo_upd upd_ne upd_same)
variable {Low c:Nat}{w':World}{y:Goroutine}
structure EP (S:Nat->Prop)(w w':World):Prop where
 rest:∀b,b<w.heap.size->¬S b->w'.heap[b]?=w.heap[b]?
 size:w.heap.size<=w'.heap.size
 tape:w'.tape=w.tape
 os:w'.os=w.os
 out:w'.output=w.output
def E3.chg {O:Nat->Prop}{w:World}{es:Array Event}(h:E3 Low O w w' es):EP O w w':=⟨h.rest,h.size,h.tape,h.os,h.out⟩
def EP.put (w:World)(c:Nat)(o:Obj):EP (λb=>b=c) w {w with heap:=w.heap.setIfInBounds c o}:=
 ⟨λb _ a=>Hj (λe=>a e.symm),AU,rfl,rfl,rfl⟩
def Keep.chg {O S:Nat->Prop}{g w:World}(h:Keep Low O g w)(d:EP S w w')(e:∀b,O b->b<w.heap.size/\¬S b)(f:∀b,b<Low->b<w.heap.size/\¬S b):Keep Low O g w':=
 ⟨λb a=>(d.rest b (f b a).1 (f b a).2).trans (h.still b a),λb a=>(d.rest b (e b a).1 (e b a).2).trans (h.mine b a),CM h.size d.size,d.tape.trans h.tape,d.os.trans h.os,d.out.trans h.out⟩
def EU.chg {S:Nat->Prop}{w:World}(h:EU c w)(a:EP S w w')(hS:¬S c):EU c w':=by
 obtain⟨s,r,e⟩:=h;have b:=(Array.getElem?_eq_some_iff.1 e).1;exact⟨s,r,(a.rest c b hS).trans e⟩
def JL.chg {S:Nat->Prop}{w:World}(h:JL c w)(a:EP S w w')(hS:¬S c):JL c w':=by
 obtain⟨s,r,e⟩:=h;have b:=(Array.getElem?_eq_some_iff.1 e).1;exact⟨s,r,(a.rest c b hS).trans e⟩
def Qt (w:World)(y:Goroutine):Prop:=
 (y.status=.running\/y.status=.finished)\/(∃g c z a,y=parked g #[rcase c z] a/\EU c w)\/∃g c v z a,y=parked g #[scase c v z] a/\EU c w
theorem Qt.woken {P:Program}{w:World}{a b:Goroutine}(h:Qt w y):woken P a b w y=y:=by
 rcases h with h | ⟨g,c,z,e,rfl,s,r,d⟩ | ⟨g,c,v,z,e,rfl,s,r,d⟩
 ·unfold Conc.woken
  split
  ·exact again_running _ h
  ·rfl
 ·exact woken_recv_open a b d
 ·exact woken_send_open a b d
theorem Qt.awake {w:World}(h:Qt w y):awake y:=by
 intro t a;rcases h with h | ⟨g,c,z,b,rfl,_⟩ | ⟨g,c,v,z,b,rfl,_⟩
 ·rcases h with h | h<;>rw[h] at a<;>cases a
 ·cases a
 ·cases a
theorem Zr {gs:Array Goroutine}{i:Nat}{f:Goroutine->Goroutine}{g':Goroutine}(h:∀l y,l≠i->gs[l]?=some y->f y=y):(gs.map f).setIfInBounds i g'=gs.setIfInBounds i g':=by
 apply Array.ext_getElem?;intro l;by_cases a:i=l
 ·subst a
  by_cases hlt:i<gs.size
  ·rw[FH Bm,FH hlt]
  ·rw[M7 Bm,M7 Bm]
 ·rw[Hj a,Hj a,K9]
  cases b:gs[l]? with
  | none=>rfl
  | some y=>simp[h l y (λe=>a e.symm) b]
def cnt:List Goroutine->Nat
 | []=>0
 | g::l=>(if g.status=.blocked then 0 else 1)+cnt l
theorem RZ:∀{l:List Goroutine} {i:Nat} {x y:Goroutine},l[i]?=some x->x.status≠.blocked->y.status=.blocked->cnt (l.set i y)<cnt l:=by
 intro l;induction l with
 | nil=>intro i x y h;simp at h
 | cons a l e=>
  intro i x y h d b;cases i with
  | zero=>
   simp at h;subst h;simp only[List.set_cons_zero,cnt,b,if_true,d,DC];omega
  | succ i=>
   simp at h;have:=e h d b
   simp only[List.set_cons_succ,cnt];omega
section
variable (P : Program)(Low : Nat)(n0 : Nat)(t₀ : Trace)
def LI (comps:List (SC ⊕ Nat))(gs:Array Goroutine)(w:World)(t:Trace)(j c:Nat)(b:List Value)(seen:Bool):Prop:=
 (∃s,comps[n0+j]?=some (.inl s)/\s.c=c/\b=s.vs/\seen=false/\D4 P Low s/\Keep Low s.O s.w w/\EU c w/\
  (gs[n0+j]?=some s.g\/∃v z a,gs[n0+j]?=some (parked s.g #[scase c v z] .send)/\Keep Low s.O s.w a/\EU c a/\stepG P false s.g a=.comm s.g #[scase c v z] true .send a #[]))\/
 (∃q y,comps[n0+j]?=some (.inr q)/\gs[n0+j]?=some y/\QuitsIn P q y/\b=[]/\JL c w/\X0 t (n0+j) c/\(seen=true->JF t (n0+j)))
structure PhI (x:RC)(ow:Nat->Nat->Prop)(comps:List (SC ⊕ Nat))(gs:Array Goroutine)(w:World)(t:Trace):Prop where
 pos:0<n0
 len:comps.length=gs.size
 c0:comps[0]?=some (.inr 0)
 siz:gs.size=n0+x.L.length
 run:x.g.status=.running
 keep:Keep Low x.O x.w w
 zero:gs[0]?=some x.g\/∃(j c:Nat) (vs:List Value) (z:Value) (w₀:World),x.L[j]?=some (c,vs,false)/\Keep Low x.O x.w w₀/\stepG P true x.g w₀=.comm x.g #[rcase c z] true (.recv true) w₀ #[]/\
  ((gs[0]?=some (parked x.g #[rcase c z] (.recv true))/\∃s,comps[n0+j]?=some (.inl s)/\gs[n0+j]?=some s.g)\/(gs[0]?=some {parked x.g #[rcase c z] (.recv true) with status:=.running}/\JL c w))
 old:∀i,0<i->i<n0->∃q y,comps[i]?=some (.inr q)/\gs[i]?=some y/\QuitsD P q (Deaf t i) y
 snd:∀(j c:Nat) (rem:List Value) (seen:Bool),x.L[j]?=some (c,rem,seen)->LI P Low n0 comps gs w t j c rem seen
 own0:∀b,x.O b->ow 0 b
 ownS:∀j s,comps[n0+j]?=some (.inl s)->∀b,s.O b->ow (n0+j) b
 chan:∀(j c:Nat) (rem:List Value) (seen:Bool),x.L[j]?=some (c,rem,seen)->ow 0 c/\¬x.O c
 dist:∀(j k c:Nat) (r:List Value) (s:Bool) (r':List Value) (s':Bool),x.L[j]?=some (c,r,s)->x.L[k]?=some (c,r',s')->j=k
 ows:Ow Low ow w.heap.size
 low:Low<=w.heap.size
 tr:Tr Low n0 x.L.length t₀ t ow
end
section
variable {P : Program}{Low : Nat}{n0 : Nat}{t₀ : Trace}{x : RC}{ow : Nat -> Nat -> Prop}{comps : List (SC ⊕ Nat)}{gs : Array Goroutine}{w : World}{t : Trace}
theorem PhI.qt (h:PhI P Low n0 t₀ x ow comps gs w t):∀(i:Nat) (y:Goroutine),gs[i]?=some y->Qt w y:=by
 intro i y a;have G:=(Array.getElem?_eq_some_iff.1 a).1;rcases KG i with rfl | D
 ·rcases h.zero with b | ⟨j,c,vs,z,E,m,_,_,⟨b,s,C,_⟩ | ⟨b,_⟩⟩
  ·rw[b] at a;cases a;exact .inl (.inl h.run)
  ·rw[b] at a;cases a
   refine .inr (.inl ⟨_,c,z,_,rfl,?_⟩);rcases h.snd j c vs false m with⟨H,l,_,_,_,_,_,n,_⟩ | ⟨q,r,l,_⟩
   ·exact n
   ·rw[C] at l;cases l
  ·rw[b] at a;cases a;exact .inl (.inl rfl)
 ·rcases E4 i n0 with o | o
  ·obtain⟨q,r,_,d,g⟩:=h.old i D o
   rw[a] at d;cases d;exact .inl g.status
  ·obtain⟨j,rfl⟩:∃j,i=n0+j:=⟨i - n0,AQ⟩
   have B:j<x.L.length:=by have:=h.siz;omega
   obtain⟨⟨c,F,seen⟩,m⟩:∃e,x.L[j]?=some e:=⟨_,DW B⟩
   rcases h.snd j c F seen m with⟨s,_,_,_,_,A,_,n,f | ⟨v,z,E,f,_⟩⟩ | ⟨q,r,_,d,g,_⟩
   ·rw[f] at a;cases a;exact .inl (.inl A.inv.1)
   ·rw[f] at a;cases a;exact .inr (.inr ⟨_,c,v,z,_,rfl,n⟩)
   ·rw[d] at a;cases a;exact .inl g.status
theorem PhI.runs (h:PhI P Low n0 t₀ x ow comps gs w t):∃(i:Nat) (y:Goroutine),gs[i]?=some y/\y.status=.running:=by
 rcases h.zero with b | ⟨j,c,vs,z,n,g,_,_,⟨b,s,d,f⟩ | ⟨b,_⟩⟩
 ·exact⟨0,_,b,h.run⟩
 ·rcases h.snd j c vs false g with⟨m,a,_,_,_,e,_,_,_⟩ | ⟨q,l,a,_⟩
  ·rw[d] at a;cases a;exact⟨_,_,f,e.inv.1⟩
  ·rw[d] at a;cases a
 ·exact⟨0,_,b,rfl⟩
theorem PhI.at (h:PhI P Low n0 t₀ x ow comps gs w t)(d:Nat):PhI P Low n0 t₀ x ow comps gs (w.at d) t:=
 ⟨h.pos,h.len,h.c0,h.siz,h.run,h.keep.at d,h.zero,h.old,λj c n seen m=>(h.snd j c n seen m).imp (λ⟨s,a,b,c,l,e,f,g,i⟩=>⟨s,a,b,c,l,e,f.at d,g,i⟩) id,h.own0,h.ownS,h.chan,h.dist,h.ows,h.low,h.tr⟩
theorem PhI.acc (h:PhI P Low n0 t₀ x ow comps gs w t):Acc (RL (LL P Low)) comps:=by
 refine RL.acc λy n=>?_
 obtain⟨i,hi⟩:=List.mem_iff_getElem?.1 n;have r:i<comps.length:=by
  exact(List.getElem?_eq_some_iff.1 hi).1
 rcases KG i with rfl | g
 ·rw[h.c0] at hi
  cases hi;exact Xt P Low 0
 ·rcases E4 i n0 with b | b
  ·obtain⟨q,l,a,_⟩:=h.old i g b
   rw[a] at hi;cases hi;exact Xt P Low q
  ·obtain⟨j,rfl⟩:∃j,i=n0+j:=⟨i - n0,AQ⟩
   have f:j<x.L.length:=by have:=h.siz;have:=h.len;omega
   obtain⟨⟨c,o,seen⟩,m⟩:∃e,x.L[j]?=some e:=⟨_,DW f⟩
   rcases h.snd j c o seen m with⟨s,a,_,_,_,d,_⟩ | ⟨q,l,a,_⟩
   ·rw[a] at hi;cases hi;exact vl d.acc
   ·rw[a] at hi;cases hi;exact Xt P Low q
end
section
variable {es:Array Event}{g':Goroutine}{i j k:Nat}
variable {P : Program}{Low : Nat}{n0 : Nat}{t₀ : Trace}{x : RC}{ow : Nat -> Nat -> Prop}{comps jL : List (SC ⊕ Nat)}{gs gs' : Array Goroutine}{w w' : World}{t u : Trace}
theorem LI.turn {S:Nat->Prop}{c:Nat}{r:List Value}{seen:Bool}(h:LI P Low n0 comps gs w t j c r seen)(o:jL[n0+j]?=comps[n0+j]?)(hg:gs'[n0+j]?=gs[n0+j]?)(hS:EP S w w')
  (B:∀s,comps[n0+j]?=some (.inl s)->∀b,s.O b->b<w.heap.size/\¬S b) (z:∀b,b<Low->b<w.heap.size/\¬S b) (p:¬S c) (hu:∀op∈u,op.g=n0+j->op.act.touch?=none):LI P Low n0 jL gs' w' (t++u) j c r seen:=by
 rcases h with⟨s,a,d,l,n,e,f,m,A⟩ | ⟨q,y,a,d,l,n,e,f,m⟩
 ·exact .inl ⟨s,by rw[o];exact a,d,l,n,e,f.chg hS (B s a) z,m.chg hS p,by rw[hg];exact A⟩
 ·exact .inr ⟨q,y,by rw[o];exact a,by rw[hg];exact d,l,n,e.chg hS p,f.app hu,λv=>(m v).app hu⟩
def PhI.part (h:PhI P Low n0 t₀ x ow comps gs w t){S:Nat->Prop}(hS:∀b,S b->ow k b):
  (∀b,b<Low->b<w.heap.size/\¬S b)/\(∀(l:Nat) (O:Nat->Prop),l≠k->(∀b,O b->ow l b)->∀b,O b->b<w.heap.size/\¬S b):=
 ⟨λb a=>⟨CB a h.low,λd=>Nat.not_lt.2 (h.ows.low _ _ (hS b d)) a⟩,λ_l _O f e b a=>⟨h.ows.up _ _ (e b a),λd=>f (h.ows.apart _ _ _ (e b a) (hS b d))⟩⟩
def MY (ow:Nat->Nat->Prop)(k:Nat)(w w':World):Nat->Nat->Prop:=λl b=>ow l b\/(l=k/\w.heap.size<=b/\b<w'.heap.size)
theorem Ow.grow (h:Ow Low ow w.heap.size)(k:Nat)(f:w.heap.size<=w'.heap.size)(hl:Low<=w.heap.size):Ow Low (MY ow k w w') w'.heap.size:=by
 refine⟨λa b c d e=>?_,λa b d=>?_,λa b d=>?_⟩
 ·rcases d with d | ⟨rfl,d,_⟩<;>rcases e with e | ⟨rfl,e,_⟩
  ·exact h.apart _ _ _ d e
  ·exact absurd (h.up _ _ d) AQ
  ·exact absurd (h.up _ _ e) AQ
  ·rfl
 ·rcases d with d | ⟨rfl,d,_⟩
  ·exact h.low _ _ d
  ·omega
 ·rcases d with d | ⟨rfl,d,e⟩
  ·exact CB (h.up _ _ d) f
  ·exact e
theorem SI {m:Nat}{O:Nat->Prop}(h:Tr Low n0 m t₀ t ow)(p:Ow Low ow w.heap.size)(hl:Low<=w.heap.size)(q:k=0\/∃j,j<m/\k=n0+j)(hS:E3 Low O w w' es)(r:∀b,O b->ow k b)(fn:FuncId)(pos:String):
  Tr Low n0 m t₀ (t++MemOp.ofEvents k fn pos es) (MY ow k w w'):=by
 refine(h.wider λa b d=>.inl d).app (p.grow k hS.size hl) q (λop g=>by obtain⟨e,_,rfl⟩:=Go.Conc.mem_ofEvents g;rfl) (λop g a l _=>?_) λt=>?_
 ·obtain⟨e,f,rfl⟩:=Go.Conc.mem_ofEvents g
  rcases hS.ev e f with⟨ad,wr,rfl,d⟩ | rfl
  case inr=>simp[MemAct.ofEvent,MemAct.touch?] at l
  simp[MemAct.ofEvent,MemAct.touch?] at l;subst l;refine .inl ⟨ad,wr,rfl,d.imp (λd=>?_) id⟩;rcases d with d | ⟨o,n⟩
  ·exact .inl (r _ d)
  ·exact .inr ⟨rfl,o,n⟩
 ·rw[Deaf_own]
  exact deafBehind_still (λe f=>by rcases hS.ev e f with⟨ad,wr,rfl,_⟩ | rfl<;>simp) _
def I6 {q:Nat}{y:Goroutine}(h:QuitsD P q (Deaf t i) y)(hu:∀op∈u,op.g≠i):QuitsD P q (Deaf (t++u) i) y:=by
 have:Deaf (t++u) i=Deaf t i:=by
  obtain⟨l⟩:=u;rw[Deaf_append];induction l generalizing t with
  | nil=>rfl
  | cons y l b=>
   have a:=hu y AU;have d:deafStep i (Deaf t i) y=Deaf t i:=by unfold deafStep;split<;>simp[a]
   rw[List.foldl_cons,d];exact b h λop hop=>hu op yFb
 rw[this];exact h
def Bd {l:Nat}{g:Goroutine}(h:l≠i):(gs.setIfInBounds i g)[l]?=gs[l]?:=Hj (λe=>h e.symm)
def Md {fn:FuncId}{pos:String}(h:k≠i):∀op∈MemOp.ofEvents k fn pos es,op.g≠i:=λop a=>by obtain⟨e,_,rfl⟩:=Go.Conc.mem_ofEvents a;exact h
theorem PhI.own0' (h:PhI P Low n0 t₀ x ow comps gs w t)(B:gs[0]?=some x.g)(hr:g'.status=.running)(hS:E3 Low x.O w w' es)(fn:FuncId)(pos:String):
  PhI P Low n0 t₀ ⟨grown x.O w w',x.L,g',w'⟩ (MY ow 0 w w') comps (gs.setIfInBounds 0 g') w' (t++MemOp.ofEvents 0 fn pos es):=by
 have v:=(Array.getElem?_eq_some_iff.1 B).1;obtain⟨C,D⟩:=h.part (S:=x.O) (k:=0) h.own0;have E:=h.pos;refine⟨h.pos,by simpa using h.len,h.c0,by simpa using h.siz,hr,Keep.refl _ _ _, .inl (by simp[v]),λi hi r=>?_,λj c m seen l=>?_,λb d=>?_,λj s o b d=>.inl (h.ownS j s o b d),λj c m seen l=>?_,h.dist,h.ows.grow 0 hS.size h.low,CM h.low hS.size,SI h.tr h.ows h.low (.inl rfl) hS h.own0 fn pos⟩
 ·obtain⟨q,y,f,n,A⟩:=h.old i hi r
  exact⟨q,y,f,by rw[Bd AQ];exact n,I6 A (Md AQ)⟩
 ·exact(h.snd j c m seen l).turn rfl (Bd AQ) hS.chg (λs o=>D (n0+j) s.O AQ (h.ownS j s o)) C (h.chan j c m seen l).2 (λop z e=>absurd e (Md AQ op z))
 ·exact d.imp (h.own0 b) λ⟨a,b⟩=>⟨rfl,a,b⟩
 ·obtain⟨f,n⟩:=h.chan j c m seen l
  refine⟨.inl f,λd=>?_⟩;rcases d with d | ⟨d,_⟩
  ·exact n d
  ·exact absurd (h.ows.up _ _ f) AQ
theorem PhI.ownJ (h:PhI P Low n0 t₀ x ow comps gs w t){s:SC}(Q:j<x.L.length)(B:comps[n0+j]?=some (.inl s))(hg:gs[n0+j]?=some s.g)(_hr:g'.status=.running)(hS:E3 Low s.O w w' es)
  (V:D4 P Low ⟨s.c,grown s.O w w',s.vs,g',w'⟩) (fn:FuncId) (pos:String):
  PhI P Low n0 t₀ x (MY ow (n0+j) w w') (comps.set (n0+j) (.inl ⟨s.c,grown s.O w w',s.vs,g',w'⟩)) (gs.setIfInBounds (n0+j) g') w' (t++MemOp.ofEvents (n0+j) fn pos es):=by
 have D:=(Array.getElem?_eq_some_iff.1 hg).1;have H:n0+j<comps.length:=by rw[h.len];exact D
 obtain⟨J,K⟩:=h.part (S:=s.O) (k:=n0+j) (h.ownS j s B);have Y:=h.pos;have F:∀l c m seen,x.L[l]?=some (c,m,seen)->¬s.O c:=λl c m seen W v=>by
  have:=h.ows.apart _ _ _ (h.chan l c m seen W).1 (h.ownS j s B c v)
  omega
 refine⟨h.pos,by simpa using h.len,by rw[CY AQ];exact h.c0,by simpa using h.siz,h.run,h.keep.chg hS.chg (K 0 x.O AQ h.own0) J,?_,λi hi N=>?_,λl c m seen o=>?_,λb v=>.inl (h.own0 b v),λl r A b v=>?_,λl c m seen o=>⟨.inl (h.chan l c m seen o).1,(h.chan l c m seen o).2⟩,h.dist,h.ows.grow _ hS.size h.low,CM h.low hS.size,SI h.tr h.ows h.low (.inr ⟨j,Q,rfl⟩) hS (h.ownS j s B) fn pos⟩
 ·rcases h.zero with h0 | ⟨k,c,vs,z,M,a,b,I,⟨d,r,e,f⟩ | ⟨d,e⟩⟩
  ·exact .inl yFe
  ·refine .inr ⟨k,c,vs,z,M,a,b,I, .inl ⟨by rw[Bd AQ];exact d,?_⟩⟩
   by_cases T:k=j
   ·subst T
    exact⟨_,Dm H,FH D⟩
   ·exact⟨r,by rw[CY AQ];exact e,by rw[Bd AQ];exact f⟩
  ·exact .inr ⟨k,c,vs,z,M,a,b,I, .inr ⟨by rw[Bd AQ];exact d,e.chg hS.chg (F k c vs false a)⟩⟩
 ·obtain⟨q,y,n,C,E⟩:=h.old i hi N
  exact⟨q,y,by rw[CY AQ];exact n,by rw[Bd AQ];exact C,I6 E (Md AQ)⟩
 ·by_cases G:l=j
  ·subst G
   rcases h.snd l c m seen o with⟨r,n,C,E,U,Z,h6,X,h8⟩ | ⟨q,y,n,_⟩
   ·rw[B] at n;cases n
    exact .inl ⟨_,Dm H,C,E,U,V,Keep.refl _ _ _,X.chg hS.chg (F l c m seen o), .inl (FH D)⟩
   ·rw[B] at n;cases n
  ·exact(h.snd l c m seen o).turn (CY AQ) (Bd AQ) hS.chg (λr A=>K (n0+l) r.O AQ (h.ownS l r A)) J (F l c m seen o) (λop R e=>absurd e (Md AQ op R))
 ·by_cases G:l=j
  ·subst G
   rw[Dm H] at A;cases A;exact v.imp (h.ownS l s B b) λ⟨a,b⟩=>⟨rfl,a,b⟩
  ·rw[CY AQ] at A
   exact .inl (h.ownS l r A b v)
end
section
variable {c j:Nat}{g0:Goroutine}{vs vs':List Value}
variable {P : Program}{Low : Nat}{n0 : Nat}{t₀ : Trace}{x : RC}{ow : Nat -> Nat -> Prop}{comps jL : List (SC ⊕ Nat)}{gs gs' : Array Goroutine}{w w' : World}{t u : Trace}
def EP.same (w:World):EP (λ_=>False) w w:=⟨λ_ _ _=>rfl,CG _,rfl,rfl,rfl⟩
theorem JV {L:List (Nat × List Value × Bool)}{b f:Bool}(d:L[j]?=some (c,vs,b)){k e:Nat}{r:List Value}{s:Bool}(h:(L.set j (c,vs',f))[k]?=some (e,r,s)):∃l g,L[k]?=some (e,l,g):=by
 by_cases a:j=k
 ·subst a
  rw[Dm (List.getElem?_eq_some_iff.1 d).1] at h;cases h;exact⟨_,_,d⟩
 ·rw[CY a] at h;exact⟨_,_,h⟩
def PhI.lt (h:PhI P Low n0 t₀ x ow comps gs w t){e:Nat × List Value × Bool}(a:x.L[j]?=some e):j<x.L.length/\n0+j<gs.size/\n0+j<comps.length:=by
 have b:=(List.getElem?_eq_some_iff.1 a).1;have:=h.siz
 have:=h.len
 omega
theorem PhI.meet (h:PhI P Low n0 t₀ x ow comps gs w t){v:Value}{s:SC}{H G:Nat}(f:x.L[j]?=some (c,v::vs',false))(D:comps[n0+j]?=some (.inl s))
  (hX:D4 P Low ⟨s.c,s.O,vs',Conc.served s.g undef,w⟩) (hr:g0.status=.running) (J:gs'.size=gs.size) (Z:gs'[0]?=some g0) (Y:gs'[n0+j]?=some (Conc.served s.g undef)) (K:∀l,l≠0->l≠n0+j->gs'[l]?=gs[l]?)
  (hu:∀op∈u,op.act.touch?=none/\(op.act≠.mark .disable/\op.act≠.mark .enable)/\(op.g=0\/op.g=n0+j)):
  PhI P Low n0 t₀ ⟨x.O,x.L.set j (c,vs',false),g0,w⟩ ow (comps.set (n0+j) (.inl ⟨s.c,s.O,vs',Conc.served s.g undef,w⟩)) gs' (w.setChan c 0 #[] false H G false) (t++u):=by
 have hn:=h.pos;obtain⟨X,ag,U⟩:=h.lt f;have F:EP (λb=>b=c) w (w.setChan c 0 #[] false H G false):=EP.put w c _;obtain⟨I,V⟩:=h.part (S:=λb=>b=c) (k:=0) (by rintro b rfl;exact(h.chan j _ _ _ f).1);have aa:∀b,x.O b->b<w.heap.size/\¬b=c:=λb r=>⟨h.ows.up _ _ (h.own0 b r),λe=>(h.chan j _ _ _ f).2 (e ▸ r)⟩
 have N:(w.setChan c 0 #[] false H G false).heap.size=w.heap.size:=by simp[World.setChan]
 have ab:Tr Low n0 (x.L.set j (c,vs',false)).length t₀ (t++u) ow:=by
  rw[JR];exact h.tr.silent λop n=>⟨(hu op n).1,λ_=>(hu op n).2.1⟩
 refine⟨h.pos,by rw[J];simpa using h.len,by rw[CY AQ];exact h.c0,by rw[J];simpa using h.siz,hr,(Keep.refl _ _ _).chg F aa I, .inl Z,λi hi W=>?_,λk m E seen C=>?_,h.own0,λk B o b r=>?_,λk m E seen C=>?_,λa b m ac s2 r' ah d z=>?_,by rw[N];exact h.ows,by rw[N];exact h.low,ab⟩
 ·obtain⟨q,y,d,z,M⟩:=h.old i hi W
  exact⟨q,y,by rw[CY AQ];exact d,by rw[K i AQ AQ];exact z,I6 M (λop n=>by rcases (hu op n).2.2 with e | e<;>omega)⟩
 ·by_cases A:j=k
  ·subst A
   have e:(x.L.set j (c,vs',false))[j]?=some (c,vs',false):=Dm X;rw[show(x.L.set j (c,vs',false))[j]?=some (m,E,seen) from C] at e;cases e;rcases h.snd j c _ _ f with⟨B,d,z,M,h4,h5,h6,⟨a,b,h7⟩,h8⟩ | ⟨q,y,d,_⟩
   ·rw[D] at d;cases d
    refine .inl ⟨_,Dm U,z,rfl,rfl,hX,(Keep.refl _ _ _).chg F (V (n0+j) s.O AQ (h.ownS j s D)) I,⟨_,_,heap_put h7⟩, .inl Y⟩
   ·rw[D] at d;cases d
  ·have T:x.L[k]?=some (m,E,seen):=by rw[<-C];exact(CY A).symm
   exact(h.snd k m E seen T).turn (CY AQ) (K _ AQ AQ) F (λB o=>V (n0+k) B.O AQ (h.ownS k B o)) I (λe=>A (h.dist j k c _ _ _ _ f (e ▸ T))) (λop n _=>(hu op n).1)
 ·by_cases A:k=j
  ·subst A
   rw[Dm U] at o;cases o;exact h.ownS k s D b r
  ·rw[CY AQ] at o
   exact h.ownS k B o b r
 ·obtain⟨R,Q,e⟩:=JV f C
  exact h.chan k m R Q e
 ·obtain⟨R,Q,e⟩:=JV f d
  obtain⟨ae,af,e'⟩:=JV f z;exact h.dist a b m _ _ _ _ e e'
theorem PhI.seen (h:PhI P Low n0 t₀ x ow comps gs w t)(o:x.L[j]?=some (c,vs,false)){q:Nat}(K:comps[n0+j]?=some (.inr q))(hr:g0.status=.running)(C:gs'.size=gs.size)(N:gs'[0]?=some g0)
  (v:∀l,l≠0->gs'[l]?=gs[l]?) (fn:FuncId) (pos:String):
  PhI P Low n0 t₀ ⟨x.O,x.L.set j (c,[],true),g0,w⟩ ow comps gs' w (t++#[{g:=0,fn,pos,act:=.recvClosed c}]):=by
 have W:=h.pos;obtain⟨I,af,ac⟩:=h.lt o;have hu:∀op∈(#[{g:=0,fn,pos,act:=.recvClosed c}]:Trace),op.g=0/\op.act.touch?=none/\op.act≠.mark .disable/\op.act≠.mark .enable:=by
  intro op d;have:op={g:=0,fn,pos,act:=.recvClosed c}:=by simpa using d
  subst this;exact⟨rfl,rfl,AU,AU⟩
 have R:Tr Low n0 (x.L.set j (c,[],true)).length t₀ (t++#[{g:=0,fn,pos,act:=.recvClosed c}]) ow:=by
  rw[JR];exact h.tr.silent λop d=>⟨(hu op d).2.1,λ_=>(hu op d).2.2⟩
 obtain⟨U,T⟩:=h.part (S:=λ_=>False) (k:=0) (λb H=>H.elim);refine⟨h.pos,by rw[C];exact h.len,h.c0,by rw[C];simpa using h.siz,hr,Keep.refl _ _ _, .inl N,λi hi G=>?_,λk m s seen r=>?_,h.own0,h.ownS,λk m s seen r=>?_,λa b m aa Y X ag f n=>?_,h.ows,h.low,R⟩
 ·obtain⟨q,y,f,n,z⟩:=h.old i hi G
  exact⟨q,y,f,by rw[v i AQ];exact n,I6 z (λop d=>by have:=(hu op d).1;omega)⟩
 ·by_cases D:j=k
  ·subst D
   have e:(x.L.set j (c,[],true))[j]?=some (c,[],true):=Dm I;rw[show(x.L.set j (c,[],true))[j]?=some (m,s,seen) from r] at e;cases e;rcases h.snd j c _ _ o with⟨A,f,_⟩ | ⟨q,y,f,n,z,Z,J,B,h7⟩
   ·rw[K] at f;cases f
   ·exact .inr ⟨q,y,f,by rw[v _ AQ];exact n,z,rfl,J,B.app (λop d _=>(hu op d).2.1),λ_=>B.known h.tr.hears fn pos⟩
  ·have Q:x.L[k]?=some (m,s,seen):=by rw[<-r];exact(CY D).symm
   exact(h.snd k m s seen Q).turn rfl (v _ AQ) (EP.same w) (λA M=>T (n0+k) A.O AQ (h.ownS k A M)) U id (λop d _=>(hu op d).2.1)
 ·obtain⟨F,E,e⟩:=JV o r
  exact h.chan k m F E e
 ·obtain⟨F,E,e⟩:=JV o f
  obtain⟨ab,ae,V⟩:=JV o n;exact h.dist a b m _ _ _ _ e V
theorem PhI.spawn (h:PhI P Low n0 t₀ x ow comps gs w t){g' child:Goroutine}(_h0:gs[0]?=some x.g)(J:x.O c)(hr:g'.status=.running)(ho:EU c w)(Z:D4 P Low ⟨c,λ_=>False,vs,child,w⟩)(fn A:FuncId)(pos z:String):
  PhI P Low n0 t₀ ⟨λb=>x.O b/\b≠c,x.L++[(c,vs,false)],g',w⟩ ow (comps++[.inl ⟨c,λ_=>False,vs,child,w⟩]) ((gs.setIfInBounds 0 g').push child) w (t++#[{g:=0,fn,pos,act:=.go gs.size},{g:=gs.size,fn:=A,pos:=z,act:=.start}]):=by
 have hn:=h.pos;have C:=h.siz;have Q:=h.len;have hlt:0<gs.size:=AQ
 have ab:Tr Low n0 (x.L++[(c,vs,false)]).length t₀ (t++#[{g:=0,fn,pos,act:=.go gs.size},{g:=gs.size,fn:=A,pos:=z,act:=.start}]) ow:=by
  rw[CO,C];exact h.tr.spawn fn A pos z
 have hu:∀op∈(#[{g:=0,fn,pos,act:=.go gs.size},{g:=gs.size,fn:=A,pos:=z,act:=.start}]:Trace),(op.g=0\/op.g=gs.size)/\op.act.touch?=none:=by
  intro op s;have:op={g:=0,fn,pos,act:=.go gs.size}\/op={g:=gs.size,fn:=A,pos:=z,act:=.start}:=by simpa using s
  rcases this with rfl | rfl
  ·exact⟨.inl rfl,rfl⟩
  ·exact⟨.inr rfl,rfl⟩
 have R:∀l,l≠0->l<gs.size->((gs.setIfInBounds 0 g').push child)[l]?=gs[l]?:=λl M hlt=>by
  rw[RS Bm];rw[<-JQ];exact Bd M
 have D:∀l,l<comps.length->(comps++[.inl ⟨c,λ_=>False,vs,child,w⟩])[l]?=comps[l]?:=λl M=>er M
 obtain⟨ac,hO⟩:=h.part (S:=λ_=>False) (k:=0) (λb f=>f.elim);have v:∀k d n seen,(x.L++[(c,vs,false)])[k]?=some (d,n,seen)->(k<x.L.length/\x.L[k]?=some (d,n,seen))\/(k=x.L.length/\d=c/\n=vs/\seen=false):=by
  intro k d n seen o;rcases E4 k x.L.length with hlt | K
  ·rw[er hlt] at o;exact .inl ⟨hlt,o⟩
  ·rw[ep K] at o
   obtain⟨m,rfl⟩:∃m,k=x.L.length+m:=⟨k - x.L.length,AQ⟩
   cases m with
   | zero=>simp at o;exact .inr ⟨rfl,o.1.symm,o.2.1.symm,o.2.2⟩
   | succ m=>simp at o
 refine⟨h.pos,by simp[Q],by rw[D 0 AQ];exact h.c0,by simp[C];omega,hr,Keep.refl _ _ _, .inl ?_,λi hi V=>?_,λk d n seen G=>?_,λb f=>h.own0 b f.1,λk F r b f=>?_,λk d n seen G=>?_,λa b d aa W N T I B=>?_,h.ows,h.low,ab⟩
 ·rw[RS Bm];simp
 ·obtain⟨q,y,I,B,X⟩:=h.old i hi V
  exact⟨q,y,by rw[D i AQ];exact I,by rw[R i AQ AQ];exact B,I6 X (λop s=>by rcases (hu op s).1 with e | e<;>omega)⟩
 ·rcases v k d n seen G with⟨o,E⟩ | ⟨rfl,rfl,rfl,rfl⟩
  ·exact(h.snd k d n seen E).turn (D _ AQ) (R _ AQ AQ) (EP.same w) (λF r=>hO (n0+k) F.O AQ (h.ownS k F r)) ac id (λop s _=>(hu op s).2)
  ·refine .inl ⟨_,?_,rfl,rfl,rfl,Z,Keep.refl _ _ _,ho, .inl ?_⟩
   ·rw[<-C,<-Q];simp
   ·rw[<-C]
    have:gs.size=(gs.setIfInBounds 0 g').size:=AU
    rw[this];exact M8
 ·rcases E4 (n0+k) comps.length with hlt | K
  ·rw[D _ hlt] at r
   exact h.ownS k F r b f
  ·rw[ep K] at r
   obtain⟨m,Y⟩:∃m,n0+k - comps.length=m:=⟨_,rfl⟩
   rw[Y] at r;cases m with
   | zero=>simp at r;subst r;exact f.elim
   | succ m=>simp at r
 ·rcases v k d n seen G with⟨o,E⟩ | ⟨rfl,rfl,rfl,rfl⟩
  ·exact⟨(h.chan k d n seen E).1,λf=>(h.chan k d n seen E).2 f.1⟩
  ·exact⟨h.own0 _ J,λf=>f.2 rfl⟩
 ·rcases v a d aa W I with⟨ha,U⟩ | ⟨rfl,rfl,rfl,rfl⟩
  ·rcases v b d N T B with⟨f,H⟩ | ⟨rfl,rfl,rfl,rfl⟩
   ·exact h.dist a b d _ _ _ _ U H
   ·exact absurd J (h.chan a _ _ _ U).2
  ·rcases v b d N T B with⟨f,H⟩ | ⟨rfl,_,rfl,rfl⟩
   ·exact absurd J (h.chan b _ _ _ H).2
   ·rfl
end
