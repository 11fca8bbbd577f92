import Derived.Test.YtobbpffcggchmaaGreatDoorCD2
namespace Go.Co
open Go.Conc
open Go.ConcN (sumTo upd sumTo_upd upd_ne upd_same)
variable {Low c:Nat}{w':World}{y:Goroutine}
structure Chg (S:Nat->Prop)(w w':World):Prop where
 rest:∀b,b<w.heap.size->¬S b->w'.heap[b]?=w.heap[b]?
 size:w.heap.size<=w'.heap.size
 tape:w'.tape=w.tape
 os:w'.os=w.os
 out:w'.output=w.output
theorem Ap3.chg {O:Nat->Prop}{w:World}{es:Array Event}(h:Ap3 Low O w w' es):Chg O w w':=⟨h.rest,h.size,h.tape,h.os,h.out⟩
theorem Chg.put (w:World)(c:Nat)(o:Obj):Chg (λb=>b=c) w {w with heap:=w.heap.setIfInBounds c o}:=
 ⟨λb _ a=>Bah (λe=>a e.symm),spz,rfl,rfl,rfl⟩
theorem Keep.chg {O S:Nat->Prop}{e w:World}(h:Keep Low O e w)(d:Chg S w w')(f:∀b,O b->b<w.heap.size/\¬S b)(g:∀b,b<Low->b<w.heap.size/\¬S b):Keep Low O e w':=
 ⟨λb a=>(d.rest b (g b a).1 (g b a).2).trans (h.still b a),λb a=>(d.rest b (f b a).1 (f b a).2).trans (h.mine b a),A9f h.size d.size,d.tape.trans h.tape,d.os.trans h.os,d.out.trans h.out⟩
theorem Yd.chg {S:Nat->Prop}{w:World}(h:Yd c w)(b:Chg S w w')(hS:¬S c):Yd c w':=by
 obtain⟨s,r,e⟩:=h;have a:=(Array.getElem?_eq_some_iff.1 e).1;exact⟨s,r,(b.rest c a hS).trans e⟩
theorem Ap2.chg {S:Nat->Prop}{w:World}(h:Ap2 c w)(b:Chg S w w')(hS:¬S c):Ap2 c w':=by
 obtain⟨s,r,e⟩:=h;have a:=(Array.getElem?_eq_some_iff.1 e).1;exact⟨s,r,(b.rest c a hS).trans e⟩
def Qt (w:World)(y:Goroutine):Prop:=
 (y.status=.running\/y.status=.finished)\/(∃g c z a,y=parked g #[rcase c z] a/\Yd c w)\/∃g c v z a,y=parked g #[scase c v z] a/\Yd c w
theorem Qt.woken {P:Program}{w:World}{a b:Goroutine}(h:Qt w y):woken P a b w y=y:=by
 rcases h with h | ⟨g,c,z,e,rfl,s,r,d⟩ | ⟨g,c,v,z,e,rfl,s,r,d⟩
 ·unfold Conc.woken
  split
  ·exact again_running _ h
  ·rfl
 ·exact woken_recv_open a b d
 ·exact woken_send_open a b d
theorem Qt.awake {w:World}(h:Qt w y):awake y:=by
 intro t a;rcases h with h | ⟨g,c,z,b,rfl,_⟩ | ⟨g,c,v,z,b,rfl,_⟩
 ·rcases h with h | h<;>rw[h] at a<;>cases a
 ·cases a
 ·cases a
theorem Xz {gs:Array Goroutine}{i:Nat}{f:Goroutine->Goroutine}{g':Goroutine}(h:∀l y,l≠i->gs[l]?=some y->f y=y):(gs.map f).setIfInBounds i g'=gs.setIfInBounds i g':=by
 apply Array.ext_getElem?;intro l;by_cases a:i=l
 ·subst a
  by_cases hlt:i<gs.size
  ·rw[A9v yCa,A9v hlt]
  ·rw[Bbq yCa,Bbq yCa]
 ·rw[Bah a,Bah a,Bbr]
  cases b:gs[l]? with
  | none=>rfl
  | some y=>simp[h l y (λe=>a e.symm) b]
def cnt:List Goroutine->Nat
 | []=>0
 | g::l=>(if g.status=.blocked then 0 else 1)+cnt l
theorem Az3:∀{l:List Goroutine} {i:Nat} {x y:Goroutine},l[i]?=some x->x.status≠.blocked->y.status=.blocked->cnt (l.set i y)<cnt l:=by
 intro l;induction l with
 | nil=>intro i x y h;simp at h
 | cons a l e=>
  intro i x y h d b;cases i with
  | zero=>
   simp at h;subst h;simp only[List.set_cons_zero,cnt,b,if_true,d,Bam];omega
  | succ i=>
   simp at h;have:=e h d b
   simp only[List.set_cons_succ,cnt];omega
section
variable (P : Program)(Low : Nat)(n0 : Nat)(t₀ : Trace)
def A3o (comps:List (SC ⊕ Nat))(gs:Array Goroutine)(w:World)(t:Trace)(j c:Nat)(b:List Value)(seen:Bool):Prop:=
 (∃s,comps[n0+j]?=some (.inl s)/\s.c=c/\b=s.vs/\seen=false/\Snd P Low s/\Keep Low s.O s.w w/\Yd c w/\
  (gs[n0+j]?=some s.g\/∃v z a,gs[n0+j]?=some (parked s.g #[scase c v z] .send)/\Keep Low s.O s.w a/\Yd c a/\stepG P false s.g a=.comm s.g #[scase c v z] true .send a #[]))\/
 (∃q y,comps[n0+j]?=some (.inr q)/\gs[n0+j]?=some y/\QuitsIn P q y/\b=[]/\Ap2 c w/\Vy t (n0+j) c/\(seen=true->Zg t (n0+j)))
structure PhI (x:RC)(ow:Nat->Nat->Prop)(comps:List (SC ⊕ Nat))(gs:Array Goroutine)(w:World)(t:Trace):Prop where
 pos:0<n0
 len:comps.length=gs.size
 c0:comps[0]?=some (.inr 0)
 siz:gs.size=n0+x.L.length
 run:x.g.status=.running
 keep:Keep Low x.O x.w w
 zero:gs[0]?=some x.g\/∃(j c:Nat) (vs:List Value) (z:Value) (w₀:World),x.L[j]?=some (c,vs,false)/\Keep Low x.O x.w w₀/\stepG P true x.g w₀=.comm x.g #[rcase c z] true (.recv true) w₀ #[]/\
  ((gs[0]?=some (parked x.g #[rcase c z] (.recv true))/\∃s,comps[n0+j]?=some (.inl s)/\gs[n0+j]?=some s.g)\/(gs[0]?=some {parked x.g #[rcase c z] (.recv true) with status:=.running}/\Ap2 c w))
 old:∀i,0<i->i<n0->∃q y,comps[i]?=some (.inr q)/\gs[i]?=some y/\QuitsD P q (Deaf t i) y
 snd:∀(j c:Nat) (rem:List Value) (seen:Bool),x.L[j]?=some (c,rem,seen)->A3o P Low n0 comps gs w t j c rem seen
 own0:∀b,x.O b->ow 0 b
 ownS:∀j s,comps[n0+j]?=some (.inl s)->∀b,s.O b->ow (n0+j) b
 chan:∀(j c:Nat) (rem:List Value) (seen:Bool),x.L[j]?=some (c,rem,seen)->ow 0 c/\¬x.O c
 dist:∀(j k c:Nat) (r:List Value) (s:Bool) (r':List Value) (s':Bool),x.L[j]?=some (c,r,s)->x.L[k]?=some (c,r',s')->j=k
 ows:Ow Low ow w.heap.size
 low:Low<=w.heap.size
 tr:Tr Low n0 x.L.length t₀ t ow
end
section
variable {P : Program}{Low : Nat}{n0 : Nat}{t₀ : Trace}{x : RC}{ow : Nat -> Nat -> Prop}{comps : List (SC ⊕ Nat)}{gs : Array Goroutine}{w : World}{t : Trace}
theorem PhI.qt (h:PhI P Low n0 t₀ x ow comps gs w t):∀(i:Nat) (y:Goroutine),gs[i]?=some y->Qt w y:=by
 intro i y a;have G:=(Array.getElem?_eq_some_iff.1 a).1;rcases Bbh i with rfl | D
 ·rcases h.zero with b | ⟨j,c,vs,z,B,g,_,_,⟨b,s,E,_⟩ | ⟨b,_⟩⟩
  ·rw[b] at a;cases a;exact .inl (.inl h.run)
  ·rw[b] at a;cases a
   refine .inr (.inl ⟨_,c,z,_,rfl,?_⟩);rcases h.snd j c vs false g with⟨H,f,_,_,_,_,_,l,_⟩ | ⟨q,o,f,_⟩
   ·exact l
   ·rw[E] at f;cases f
  ·rw[b] at a;cases a;exact .inl (.inl rfl)
 ·rcases Ba3 i n0 with r | r
  ·obtain⟨q,o,_,d,n⟩:=h.old i D r
   rw[a] at d;cases d;exact .inl n.status
  ·obtain⟨j,rfl⟩:∃j,i=n0+j:=⟨i - n0,omz⟩
   have C:j<x.L.length:=by have:=h.siz;omega
   obtain⟨⟨c,A,seen⟩,g⟩:∃e,x.L[j]?=some e:=⟨_,A9k C⟩
   rcases h.snd j c A seen g with⟨s,_,_,_,_,F,_,l,m | ⟨v,z,B,m,_⟩⟩ | ⟨q,o,_,d,n,_⟩
   ·rw[m] at a;cases a;exact .inl (.inl F.inv.1)
   ·rw[m] at a;cases a;exact .inr (.inr ⟨_,c,v,z,_,rfl,l⟩)
   ·rw[d] at a;cases a;exact .inl n.status
theorem PhI.runs (h:PhI P Low n0 t₀ x ow comps gs w t):∃(i:Nat) (y:Goroutine),gs[i]?=some y/\y.status=.running:=by
 rcases h.zero with b | ⟨j,c,vs,z,n,e,_,_,⟨b,s,d,g⟩ | ⟨b,_⟩⟩
 ·exact⟨0,_,b,h.run⟩
 ·rcases h.snd j c vs false e with⟨m,a,_,_,_,f,_,_,_⟩ | ⟨q,l,a,_⟩
  ·rw[d] at a;cases a;exact⟨_,_,g,f.inv.1⟩
  ·rw[d] at a;cases a
 ·exact⟨0,_,b,rfl⟩
theorem PhI.at (h:PhI P Low n0 t₀ x ow comps gs w t)(d:Nat):PhI P Low n0 t₀ x ow comps gs (w.at d) t:=
 ⟨h.pos,h.len,h.c0,h.siz,h.run,h.keep.at d,h.zero,h.old,λj c l seen n=>(h.snd j c l seen n).imp (λ⟨s,a,b,c,m,e,f,g,i⟩=>⟨s,a,b,c,m,e,f.at d,g,i⟩) id,h.own0,h.ownS,h.chan,h.dist,h.ows,h.low,h.tr⟩
theorem PhI.acc (h:PhI P Low n0 t₀ x ow comps gs w t):Acc (RL (A70 P Low)) comps:=by
 refine RL.acc λy g=>?_
 obtain⟨i,hi⟩:=List.mem_iff_getElem?.1 g;have r:i<comps.length:=by
  exact(List.getElem?_eq_some_iff.1 hi).1
 rcases Bbh i with rfl | n
 ·rw[h.c0] at hi
  cases hi;exact Vs P Low 0
 ·rcases Ba3 i n0 with b | b
  ·obtain⟨q,d,a,_⟩:=h.old i n b
   rw[a] at hi;cases hi;exact Vs P Low q
  ·obtain⟨j,rfl⟩:∃j,i=n0+j:=⟨i - n0,omz⟩
   have m:j<x.L.length:=by have:=h.siz;have:=h.len;omega
   obtain⟨⟨c,f,seen⟩,l⟩:∃e,x.L[j]?=some e:=⟨_,A9k m⟩
   rcases h.snd j c f seen l with⟨s,a,_,_,_,o,_⟩ | ⟨q,d,a,_⟩
   ·rw[a] at hi;cases hi;exact Apd o.acc
   ·rw[a] at hi;cases hi;exact Vs P Low q
end
section
variable {es:Array Event}{g':Goroutine}{i j k:Nat}
variable {P : Program}{Low : Nat}{n0 : Nat}{t₀ : Trace}{x : RC}{ow : Nat -> Nat -> Prop}{comps gK : List (SC ⊕ Nat)}{gs gs' : Array Goroutine}{w w' : World}{t u : Trace}
theorem A3o.turn {S:Nat->Prop}{c:Nat}{o:List Value}{seen:Bool}(h:A3o P Low n0 comps gs w t j c o seen)(p:gK[n0+j]?=comps[n0+j]?)(hg:gs'[n0+j]?=gs[n0+j]?)(hS:Chg S w w')
  (A:∀s,comps[n0+j]?=some (.inl s)->∀b,s.O b->b<w.heap.size/\¬S b) (B:∀b,b<Low->b<w.heap.size/\¬S b) (r:¬S c) (hu:∀op∈u,op.g=n0+j->op.act.touch?=none):A3o P Low n0 gK gs' w' (t++u) j c o seen:=by
 rcases h with⟨s,a,d,n,e,m,f,l,z⟩ | ⟨q,y,a,d,n,e,m,f,l⟩
 ·exact .inl ⟨s,by rw[p];exact a,d,n,e,m,f.chg hS (A s a) B,l.chg hS r,by rw[hg];exact z⟩
 ·exact .inr ⟨q,y,by rw[p];exact a,by rw[hg];exact d,n,e,m.chg hS r,f.app hu,λv=>(l v).app hu⟩
theorem PhI.part (h:PhI P Low n0 t₀ x ow comps gs w t){S:Nat->Prop}(hS:∀b,S b->ow k b):
  (∀b,b<Low->b<w.heap.size/\¬S b)/\(∀(l:Nat) (O:Nat->Prop),l≠k->(∀b,O b->ow l b)->∀b,O b->b<w.heap.size/\¬S b):=
 ⟨λb a=>⟨A82 a h.low,λd=>Nat.not_lt.2 (h.ows.low _ _ (hS b d)) a⟩,λ_l _O f e b a=>⟨h.ows.up _ _ (e b a),λd=>f (h.ows.apart _ _ _ (e b a) (hS b d))⟩⟩
def Aqu (ow:Nat->Nat->Prop)(k:Nat)(w w':World):Nat->Nat->Prop:=λl b=>ow l b\/(l=k/\w.heap.size<=b/\b<w'.heap.size)
theorem Ow.grow (h:Ow Low ow w.heap.size)(k:Nat)(f:w.heap.size<=w'.heap.size)(hl:Low<=w.heap.size):Ow Low (Aqu ow k w w') w'.heap.size:=by
 refine⟨λa b c d e=>?_,λa b d=>?_,λa b d=>?_⟩
 ·rcases d with d | ⟨rfl,d,_⟩<;>rcases e with e | ⟨rfl,e,_⟩
  ·exact h.apart _ _ _ d e
  ·exact absurd (h.up _ _ d) omz
  ·exact absurd (h.up _ _ e) omz
  ·rfl
 ·rcases d with d | ⟨rfl,d,_⟩
  ·exact h.low _ _ d
  ·omega
 ·rcases d with d | ⟨rfl,d,e⟩
  ·exact A82 (h.up _ _ d) f
  ·exact e
theorem A32 {m:Nat}{O:Nat->Prop}(h:Tr Low n0 m t₀ t ow)(r:Ow Low ow w.heap.size)(hl:Low<=w.heap.size)(p:k=0\/∃j,j<m/\k=n0+j)(hS:Ap3 Low O w w' es)(n:∀b,O b->ow k b)(fn:FuncId)(pos:String):
  Tr Low n0 m t₀ (t++MemOp.ofEvents k fn pos es) (Aqu ow k w w'):=by
 refine(h.wider λa b d=>.inl d).app (r.grow k hS.size hl) p (λop l=>by obtain⟨e,_,rfl⟩:=Go.Conc.mem_ofEvents l;rfl) (λop l a f _=>?_) λt=>?_
 ·obtain⟨e,g,rfl⟩:=Go.Conc.mem_ofEvents l
  rcases hS.ev e g with⟨ad,wr,rfl,d⟩ | rfl
  case inr=>simp[MemAct.ofEvent,MemAct.touch?] at f
  simp[MemAct.ofEvent,MemAct.touch?] at f;subst f;refine .inl ⟨ad,wr,rfl,d.imp (λd=>?_) id⟩;rcases d with d | ⟨q,o⟩
  ·exact .inl (n _ d)
  ·exact .inr ⟨rfl,q,o⟩
 ·rw[Deaf_own]
  exact deafBehind_still (λe g=>by rcases hS.ev e g with⟨ad,wr,rfl,_⟩ | rfl<;>simp) _
theorem Yx {q:Nat}{y:Goroutine}(h:QuitsD P q (Deaf t i) y)(hu:∀op∈u,op.g≠i):QuitsD P q (Deaf (t++u) i) y:=by
 have:Deaf (t++u) i=Deaf t i:=by
  obtain⟨l⟩:=u;rw[Deaf_append];induction l generalizing t with
  | nil=>rfl
  | cons y l a=>
   have b:=hu y spz;have d:deafStep i (Deaf t i) y=Deaf t i:=by unfold deafStep;split<;>simp[b]
   rw[List.foldl_cons,d];exact a h λop hop=>hu op yEc
 rw[this];exact h
theorem Bi {l:Nat}{g:Goroutine}(h:l≠i):(gs.setIfInBounds i g)[l]?=gs[l]?:=Bah (λe=>h e.symm)
theorem Kw {fn:FuncId}{pos:String}(h:k≠i):∀op∈MemOp.ofEvents k fn pos es,op.g≠i:=λop a=>by obtain⟨e,_,rfl⟩:=Go.Conc.mem_ofEvents a;exact h
theorem PhI.own0' (h:PhI P Low n0 t₀ x ow comps gs w t)(v:gs[0]?=some x.g)(hr:g'.status=.running)(hS:Ap3 Low x.O w w' es)(fn:FuncId)(pos:String):
  PhI P Low n0 t₀ ⟨grown x.O w w',x.L,g',w'⟩ (Aqu ow 0 w w') comps (gs.setIfInBounds 0 g') w' (t++MemOp.ofEvents 0 fn pos es):=by
 have r:=(Array.getElem?_eq_some_iff.1 v).1;obtain⟨z,C⟩:=h.part (S:=x.O) (k:=0) h.own0;have E:=h.pos;refine⟨h.pos,by simpa using h.len,h.c0,by simpa using h.siz,hr,Keep.refl _ _ _, .inl (by simp[r]),λi hi A=>?_,λj c f seen l=>?_,λb d=>?_,λj s o b d=>.inl (h.ownS j s o b d),λj c f seen l=>?_,h.dist,h.ows.grow 0 hS.size h.low,A9f h.low hS.size,A32 h.tr h.ows h.low (.inl rfl) hS h.own0 fn pos⟩
 ·obtain⟨q,y,m,n,D⟩:=h.old i hi A
  exact⟨q,y,m,by rw[Bi omz];exact n,Yx D (Kw omz)⟩
 ·exact(h.snd j c f seen l).turn rfl (Bi omz) hS.chg (λs o=>C (n0+j) s.O omz (h.ownS j s o)) z (h.chan j c f seen l).2 (λop B e=>absurd e (Kw omz op B))
 ·exact d.imp (h.own0 b) λ⟨a,b⟩=>⟨rfl,a,b⟩
 ·obtain⟨m,n⟩:=h.chan j c f seen l
  refine⟨.inl m,λd=>?_⟩;rcases d with d | ⟨d,_⟩
  ·exact n d
  ·exact absurd (h.ows.up _ _ m) omz
theorem PhI.ownJ (h:PhI P Low n0 t₀ x ow comps gs w t){s:SC}(R:j<x.L.length)(B:comps[n0+j]?=some (.inl s))(hg:gs[n0+j]?=some s.g)(_hr:g'.status=.running)(hS:Ap3 Low s.O w w' es)
  (X:Snd P Low ⟨s.c,grown s.O w w',s.vs,g',w'⟩) (fn:FuncId) (pos:String):
  PhI P Low n0 t₀ x (Aqu ow (n0+j) w w') (comps.set (n0+j) (.inl ⟨s.c,grown s.O w w',s.vs,g',w'⟩)) (gs.setIfInBounds (n0+j) g') w' (t++MemOp.ofEvents (n0+j) fn pos es):=by
 have C:=(Array.getElem?_eq_some_iff.1 hg).1;have E:n0+j<comps.length:=by rw[h.len];exact C
 obtain⟨J,M⟩:=h.part (S:=s.O) (k:=n0+j) (h.ownS j s B);have hn:=h.pos;have G:∀l c m seen,x.L[l]?=some (c,m,seen)->¬s.O c:=λl c m seen V v=>by
  have:=h.ows.apart _ _ _ (h.chan l c m seen V).1 (h.ownS j s B c v)
  omega
 refine⟨h.pos,by simpa using h.len,by rw[A9d omz];exact h.c0,by simpa using h.siz,h.run,h.keep.chg hS.chg (M 0 x.O omz h.own0) J,?_,λi hi T=>?_,λl c m seen n=>?_,λb v=>.inl (h.own0 b v),λl o A b v=>?_,λl c m seen n=>⟨.inl (h.chan l c m seen n).1,(h.chan l c m seen n).2⟩,h.dist,h.ows.grow _ hS.size h.low,A9f h.low hS.size,A32 h.tr h.ows h.low (.inr ⟨j,R,rfl⟩) hS (h.ownS j s B) fn pos⟩
 ·rcases h.zero with h0 | ⟨k,c,vs,z,I,a,b,K,⟨d,o,e,f⟩ | ⟨d,e⟩⟩
  ·exact .inl yEe
  ·refine .inr ⟨k,c,vs,z,I,a,b,K, .inl ⟨by rw[Bi omz];exact d,?_⟩⟩
   by_cases W:k=j
   ·subst W
    exact⟨_,A9s E,A9v C⟩
   ·exact⟨o,by rw[A9d omz];exact e,by rw[Bi omz];exact f⟩
  ·exact .inr ⟨k,c,vs,z,I,a,b,K, .inr ⟨by rw[Bi omz];exact d,e.chg hS.chg (G k c vs false a)⟩⟩
 ·obtain⟨q,y,r,F,H⟩:=h.old i hi T
  exact⟨q,y,by rw[A9d omz];exact r,by rw[Bi omz];exact F,Yx H (Kw omz)⟩
 ·by_cases D:l=j
  ·subst D
   rcases h.snd l c m seen n with⟨o,r,F,H,N,h5,Y,Q,Z⟩ | ⟨q,y,r,_⟩
   ·rw[B] at r;cases r
    exact .inl ⟨_,A9s E,F,H,N,X,Keep.refl _ _ _,Q.chg hS.chg (G l c m seen n), .inl (A9v C)⟩
   ·rw[B] at r;cases r
  ·exact(h.snd l c m seen n).turn (A9d omz) (Bi omz) hS.chg (λo A=>M (n0+l) o.O omz (h.ownS l o A)) J (G l c m seen n) (λop U e=>absurd e (Kw omz op U))
 ·by_cases D:l=j
  ·subst D
   rw[A9s E] at A;cases A;exact v.imp (h.ownS l s B b) λ⟨a,b⟩=>⟨rfl,a,b⟩
  ·rw[A9d omz] at A
   exact .inl (h.ownS l o A b v)
end
section
variable {c j:Nat}{g0:Goroutine}{vs vs':List Value}
variable {P : Program}{Low : Nat}{n0 : Nat}{t₀ : Trace}{x : RC}{ow : Nat -> Nat -> Prop}{comps gK : List (SC ⊕ Nat)}{gs gs' : Array Goroutine}{w w' : World}{t u : Trace}
theorem Chg.same (w:World):Chg (λ_=>False) w w:=⟨λ_ _ _=>rfl,A88 _,rfl,rfl,rfl⟩
theorem A6u {L:List (Nat × List Value × Bool)}{b f:Bool}(a:L[j]?=some (c,vs,b)){k d:Nat}{r:List Value}{s:Bool}(h:(L.set j (c,vs',f))[k]?=some (d,r,s)):∃l g,L[k]?=some (d,l,g):=by
 by_cases e:j=k
 ·subst e
  rw[A9s (List.getElem?_eq_some_iff.1 a).1] at h;cases h;exact⟨_,_,a⟩
 ·rw[A9d e] at h;exact⟨_,_,h⟩
theorem PhI.lt (h:PhI P Low n0 t₀ x ow comps gs w t){e:Nat × List Value × Bool}(a:x.L[j]?=some e):j<x.L.length/\n0+j<gs.size/\n0+j<comps.length:=by
 have b:=(List.getElem?_eq_some_iff.1 a).1;have:=h.siz
 have:=h.len
 omega
theorem PhI.meet (h:PhI P Low n0 t₀ x ow comps gs w t){v:Value}{s:SC}{H F:Nat}(f:x.L[j]?=some (c,v::vs',false))(E:comps[n0+j]?=some (.inl s))
  (hX:Snd P Low ⟨s.c,s.O,vs',Conc.served s.g undef,w⟩) (hr:g0.status=.running) (M:gs'.size=gs.size) (W:gs'[0]?=some g0) (hJ:gs'[n0+j]?=some (Conc.served s.g undef)) (J:∀l,l≠0->l≠n0+j->gs'[l]?=gs[l]?)
  (hu:∀op∈u,op.act.touch?=none/\(op.act≠.mark .disable/\op.act≠.mark .enable)/\(op.g=0\/op.g=n0+j)):
  PhI P Low n0 t₀ ⟨x.O,x.L.set j (c,vs',false),g0,w⟩ ow (comps.set (n0+j) (.inl ⟨s.c,s.O,vs',Conc.served s.g undef,w⟩)) gs' (w.setChan c 0 #[] false H F false) (t++u):=by
 have hn:=h.pos;obtain⟨Y,af,N⟩:=h.lt f;have I:Chg (λb=>b=c) w (w.setChan c 0 #[] false H F false):=Chg.put w c _;obtain⟨G,T⟩:=h.part (S:=λb=>b=c) (k:=0) (by rintro b rfl;exact(h.chan j _ _ _ f).1);have Z:∀b,x.O b->b<w.heap.size/\¬b=c:=λb r=>⟨h.ows.up _ _ (h.own0 b r),λe=>(h.chan j _ _ _ f).2 (e ▸ r)⟩
 have Q:(w.setChan c 0 #[] false H F false).heap.size=w.heap.size:=by simp[World.setChan]
 have aa:Tr Low n0 (x.L.set j (c,vs',false)).length t₀ (t++u) ow:=by
  rw[Bbl];exact h.tr.silent λop o=>⟨(hu op o).1,λ_=>(hu op o).2.1⟩
 refine⟨h.pos,by rw[M];simpa using h.len,by rw[A9d omz];exact h.c0,by rw[M];simpa using h.siz,hr,(Keep.refl _ _ _).chg I Z G, .inl W,λi hi ab=>?_,λk m C seen D=>?_,h.own0,λk z n b r=>?_,λk m C seen D=>?_,λa b m ah s2 r' ag d A=>?_,by rw[Q];exact h.ows,by rw[Q];exact h.low,aa⟩
 ·obtain⟨q,y,d,A,U⟩:=h.old i hi ab
  exact⟨q,y,by rw[A9d omz];exact d,by rw[J i omz omz];exact A,Yx U (λop o=>by rcases (hu op o).2.2 with e | e<;>omega)⟩
 ·by_cases B:j=k
  ·subst B
   have e:(x.L.set j (c,vs',false))[j]?=some (c,vs',false):=A9s Y;rw[show(x.L.set j (c,vs',false))[j]?=some (m,C,seen) from D] at e;cases e;rcases h.snd j c _ _ f with⟨z,d,A,U,h4,h5,h6,⟨a,b,X⟩,h8⟩ | ⟨q,y,d,_⟩
   ·rw[E] at d;cases d
    refine .inl ⟨_,A9s N,A,rfl,rfl,hX,(Keep.refl _ _ _).chg I (T (n0+j) s.O omz (h.ownS j s E)) G,⟨_,_,heap_put X⟩, .inl hJ⟩
   ·rw[E] at d;cases d
  ·have K:x.L[k]?=some (m,C,seen):=by rw[<-D];exact(A9d B).symm
   exact(h.snd k m C seen K).turn (A9d omz) (J _ omz omz) I (λz n=>T (n0+k) z.O omz (h.ownS k z n)) G (λe=>B (h.dist j k c _ _ _ _ f (e ▸ K))) (λop o _=>(hu op o).1)
 ·by_cases B:k=j
  ·subst B
   rw[A9s N] at n;cases n;exact h.ownS k s E b r
  ·rw[A9d omz] at n
   exact h.ownS k z n b r
 ·obtain⟨R,V,e⟩:=A6u f D
  exact h.chan k m R V e
 ·obtain⟨R,V,e⟩:=A6u f d
  obtain⟨ae,ac,e'⟩:=A6u f A;exact h.dist a b m _ _ _ _ e e'
theorem PhI.seen (h:PhI P Low n0 t₀ x ow comps gs w t)(n:x.L[j]?=some (c,vs,false)){q:Nat}(V:comps[n0+j]?=some (.inr q))(hr:g0.status=.running)(C:gs'.size=gs.size)(H:gs'[0]?=some g0)
  (v:∀l,l≠0->gs'[l]?=gs[l]?) (fn:FuncId) (pos:String):
  PhI P Low n0 t₀ ⟨x.O,x.L.set j (c,[],true),g0,w⟩ ow comps gs' w (t++#[{g:=0,fn,pos,act:=.recvClosed c}]):=by
 have hn:=h.pos;obtain⟨K,ab,ae⟩:=h.lt n;have hu:∀op∈(#[{g:=0,fn,pos,act:=.recvClosed c}]:Trace),op.g=0/\op.act.touch?=none/\op.act≠.mark .disable/\op.act≠.mark .enable:=by
  intro op d;have:op={g:=0,fn,pos,act:=.recvClosed c}:=by simpa using d
  subst this;exact⟨rfl,rfl,spz,spz⟩
 have N:Tr Low n0 (x.L.set j (c,[],true)).length t₀ (t++#[{g:=0,fn,pos,act:=.recvClosed c}]) ow:=by
  rw[Bbl];exact h.tr.silent λop d=>⟨(hu op d).2.1,λ_=>(hu op d).2.2⟩
 obtain⟨G,T⟩:=h.part (S:=λ_=>False) (k:=0) (λb I=>I.elim);refine⟨h.pos,by rw[C];exact h.len,h.c0,by rw[C];simpa using h.siz,hr,Keep.refl _ _ _, .inl H,λi hi Q=>?_,λk m r seen s=>?_,h.own0,h.ownS,λk m r seen s=>?_,λa b m af s2 W ac f o=>?_,h.ows,h.low,N⟩
 ·obtain⟨q,y,f,o,A⟩:=h.old i hi Q
  exact⟨q,y,f,by rw[v i omz];exact o,Yx A (λop d=>by have:=(hu op d).1;omega)⟩
 ·by_cases D:j=k
  ·subst D
   have e:(x.L.set j (c,[],true))[j]?=some (c,[],true):=A9s K;rw[show(x.L.set j (c,[],true))[j]?=some (m,r,seen) from s] at e;cases e;rcases h.snd j c _ _ n with⟨z,f,_⟩ | ⟨q,y,f,o,A,Y,R,B,Z⟩
   ·rw[V] at f;cases f
   ·exact .inr ⟨q,y,f,by rw[v _ omz];exact o,A,rfl,R,B.app (λop d _=>(hu op d).2.1),λ_=>B.known h.tr.hears fn pos⟩
  ·have M:x.L[k]?=some (m,r,seen):=by rw[<-s];exact(A9d D).symm
   exact(h.snd k m r seen M).turn rfl (v _ omz) (Chg.same w) (λz J=>T (n0+k) z.O omz (h.ownS k z J)) G id (λop d _=>(hu op d).2.1)
 ·obtain⟨E,F,e⟩:=A6u n s
  exact h.chan k m E F e
 ·obtain⟨E,F,e⟩:=A6u n f
  obtain⟨aa,X,U⟩:=A6u n o;exact h.dist a b m _ _ _ _ e U
theorem PhI.spawn (h:PhI P Low n0 t₀ x ow comps gs w t){g' child:Goroutine}(_h0:gs[0]?=some x.g)(G:x.O c)(hr:g'.status=.running)(W:Yd c w)(Z:Snd P Low ⟨c,λ_=>False,vs,child,w⟩)(fn A:FuncId)(pos z:String):
  PhI P Low n0 t₀ ⟨λb=>x.O b/\b≠c,x.L++[(c,vs,false)],g',w⟩ ow (comps++[.inl ⟨c,λ_=>False,vs,child,w⟩]) ((gs.setIfInBounds 0 g').push child) w (t++#[{g:=0,fn,pos,act:=.go gs.size},{g:=gs.size,fn:=A,pos:=z,act:=.start}]):=by
 have hn:=h.pos;have B:=h.siz;have R:=h.len;have hlt:0<gs.size:=omz
 have X:Tr Low n0 (x.L++[(c,vs,false)]).length t₀ (t++#[{g:=0,fn,pos,act:=.go gs.size},{g:=gs.size,fn:=A,pos:=z,act:=.start}]) ow:=by
  rw[A83,B];exact h.tr.spawn fn A pos z
 have hu:∀op∈(#[{g:=0,fn,pos,act:=.go gs.size},{g:=gs.size,fn:=A,pos:=z,act:=.start}]:Trace),(op.g=0\/op.g=gs.size)/\op.act.touch?=none:=by
  intro op v;have:op={g:=0,fn,pos,act:=.go gs.size}\/op={g:=gs.size,fn:=A,pos:=z,act:=.start}:=by simpa using v
  rcases this with rfl | rfl
  ·exact⟨.inl rfl,rfl⟩
  ·exact⟨.inr rfl,rfl⟩
 have N:∀l,l≠0->l<gs.size->((gs.setIfInBounds 0 g').push child)[l]?=gs[l]?:=λl K hlt=>by
  rw[Bb4 yCa];rw[<-Bay];exact Bi K
 have E:∀l,l<comps.length->(comps++[.inl ⟨c,λ_=>False,vs,child,w⟩])[l]?=comps[l]?:=λl K=>Bcf K
 obtain⟨V,hO⟩:=h.part (S:=λ_=>False) (k:=0) (λb f=>f.elim);have s:∀k d n seen,(x.L++[(c,vs,false)])[k]?=some (d,n,seen)->(k<x.L.length/\x.L[k]?=some (d,n,seen))\/(k=x.L.length/\d=c/\n=vs/\seen=false):=by
  intro k d n seen o;rcases Ba3 k x.L.length with hlt | H
  ·rw[Bcf hlt] at o;exact .inl ⟨hlt,o⟩
  ·rw[Bb9 H] at o
   obtain⟨m,rfl⟩:∃m,k=x.L.length+m:=⟨k - x.L.length,omz⟩
   cases m with
   | zero=>simp at o;exact .inr ⟨rfl,o.1.symm,o.2.1.symm,o.2.2⟩
   | succ m=>simp at o
 refine⟨h.pos,by simp[R],by rw[E 0 omz];exact h.c0,by simp[B];omega,hr,Keep.refl _ _ _, .inl ?_,λi hi Y=>?_,λk d n seen I=>?_,λb f=>h.own0 b f.1,λk D r b f=>?_,λk d n seen I=>?_,λa b d aa s2 Q T M F=>?_,h.ows,h.low,X⟩
 ·rw[Bb4 yCa];simp
 ·obtain⟨q,y,M,F,h3⟩:=h.old i hi Y
  exact⟨q,y,by rw[E i omz];exact M,by rw[N i omz omz];exact F,Yx h3 (λop v=>by rcases (hu op v).1 with e | e<;>omega)⟩
 ·rcases s k d n seen I with⟨o,C⟩ | ⟨rfl,rfl,rfl,rfl⟩
  ·exact(h.snd k d n seen C).turn (E _ omz) (N _ omz omz) (Chg.same w) (λD r=>hO (n0+k) D.O omz (h.ownS k D r)) V id (λop v _=>(hu op v).2)
  ·refine .inl ⟨_,?_,rfl,rfl,rfl,Z,Keep.refl _ _ _,W, .inl ?_⟩
   ·rw[<-B,<-R];simp
   ·rw[<-B]
    have:gs.size=(gs.setIfInBounds 0 g').size:=spz
    rw[this];exact Bby
 ·rcases Ba3 (n0+k) comps.length with hlt | H
  ·rw[E _ hlt] at r
   exact h.ownS k D r b f
  ·rw[Bb9 H] at r
   obtain⟨m,hm⟩:∃m,n0+k - comps.length=m:=⟨_,rfl⟩
   rw[hm] at r;cases m with
   | zero=>simp at r;subst r;exact f.elim
   | succ m=>simp at r
 ·rcases s k d n seen I with⟨o,C⟩ | ⟨rfl,rfl,rfl,rfl⟩
  ·exact⟨(h.chan k d n seen C).1,λf=>(h.chan k d n seen C).2 f.1⟩
  ·exact⟨h.own0 _ G,λf=>f.2 rfl⟩
 ·rcases s a d aa s2 M with⟨ha,U⟩ | ⟨rfl,rfl,rfl,rfl⟩
  ·rcases s b d Q T F with⟨f,J⟩ | ⟨rfl,rfl,rfl,rfl⟩
   ·exact h.dist a b d _ _ _ _ U J
   ·exact absurd G (h.chan a _ _ _ U).2
  ·rcases s b d Q T F with⟨f,J⟩ | ⟨rfl,_,rfl,rfl⟩
   ·exact absurd G (h.chan b _ _ _ J).2
   ·rfl
end
end Go.Co
