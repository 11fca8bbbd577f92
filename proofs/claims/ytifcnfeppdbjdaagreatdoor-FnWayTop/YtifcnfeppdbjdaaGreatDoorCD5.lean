import Derived.Test.YtifcnfeppdbjdaaGreatDoorCD2
namespace Go.Co
open Go.Conc
open Go.ConcN (sumTo upd sumTo_upd upd_ne upd_same)
variable {Low c:Nat}{w':World}{y:Goroutine}
structure EM (S:Nat->Prop)(w w':World):Prop where
 rest:∀b,b<w.heap.size->¬S b->w'.heap[b]?=w.heap[b]?
 size:w.heap.size<=w'.heap.size
 tape:w'.tape=w.tape
 os:w'.os=w.os
 out:w'.output=w.output
theorem EY.chg {O:Nat->Prop}{w:World}{es:Array Event}(h:EY Low O w w' es):EM O w w':=⟨h.rest,h.size,h.tape,h.os,h.out⟩
theorem EM.put (w:World)(c:Nat)(o:Obj):EM (λb=>b=c) w {w with heap:=w.heap.setIfInBounds c o}:=
 ⟨λb _ a=>G0 (λe=>a e.symm),AU,rfl,rfl,rfl⟩
theorem Keep.chg {O S:Nat->Prop}{f w:World}(h:Keep Low O f w)(d:EM S w w')(g:∀b,O b->b<w.heap.size/\¬S b)(e:∀b,b<Low->b<w.heap.size/\¬S b):Keep Low O f w':=
 ⟨λb a=>(d.rest b (e b a).1 (e b a).2).trans (h.still b a),λb a=>(d.rest b (g b a).1 (g b a).2).trans (h.mine b a),CJ h.size d.size,d.tape.trans h.tape,d.os.trans h.os,d.out.trans h.out⟩
theorem Zq.chg {S:Nat->Prop}{w:World}(h:Zq c w)(a:EM S w w')(hS:¬S c):Zq c w':=by
 obtain⟨s,r,e⟩:=h;have b:=(Array.getElem?_eq_some_iff.1 e).1;exact⟨s,r,(a.rest c b hS).trans e⟩
theorem JF.chg {S:Nat->Prop}{w:World}(h:JF c w)(a:EM S w w')(hS:¬S c):JF c w':=by
 obtain⟨s,r,e⟩:=h;have b:=(Array.getElem?_eq_some_iff.1 e).1;exact⟨s,r,(a.rest c b hS).trans e⟩
def Qt (w:World)(y:Goroutine):Prop:=
 (y.status=.running\/y.status=.finished)\/(∃g c z a,y=parked g #[rcase c z] a/\Zq c w)\/∃g c v z a,y=parked g #[scase c v z] a/\Zq c w
theorem Qt.woken {P:Program}{w:World}{a b:Goroutine}(h:Qt w y):woken P a b w y=y:=by
 rcases h with h | ⟨g,c,z,e,rfl,s,r,d⟩ | ⟨g,c,v,z,e,rfl,s,r,d⟩
 ·unfold Conc.woken
  split
  ·exact again_running _ h
  ·rfl
 ·exact woken_recv_open a b d
 ·exact woken_send_open a b d
theorem Qt.awake {w:World}(h:Qt w y):awake y:=by
 intro t a;rcases h with h | ⟨g,c,z,b,rfl,_⟩ | ⟨g,c,v,z,b,rfl,_⟩
 ·rcases h with h | h<;>rw[h] at a<;>cases a
 ·cases a
 ·cases a
theorem Zb {gs:Array Goroutine}{i:Nat}{f:Goroutine->Goroutine}{g':Goroutine}(h:∀l y,l≠i->gs[l]?=some y->f y=y):(gs.map f).setIfInBounds i g'=gs.setIfInBounds i g':=by
 apply Array.ext_getElem?;intro l;by_cases a:i=l
 ·subst a
  by_cases hlt:i<gs.size
  ·rw[E9 BZ,E9 hlt]
  ·rw[M1 BZ,M1 BZ]
 ·rw[G0 a,G0 a,K1]
  cases b:gs[l]? with
  | none=>rfl
  | some y=>simp[h l y (λe=>a e.symm) b]
def cnt:List Goroutine->Nat
 | []=>0
 | g::l=>(if g.status=.blocked then 0 else 1)+cnt l
theorem RX:∀{l:List Goroutine} {i:Nat} {x y:Goroutine},l[i]?=some x->x.status≠.blocked->y.status=.blocked->cnt (l.set i y)<cnt l:=by
 intro l;induction l with
 | nil=>intro i x y h;simp at h
 | cons a l e=>
  intro i x y h d b;cases i with
  | zero=>
   simp at h;subst h;simp only[List.set_cons_zero,cnt,b,if_true,d,C7];omega
  | succ i=>
   simp at h;have:=e h d b
   simp only[List.set_cons_succ,cnt];omega
section
variable (P : Program)(Low : Nat)(n0 : Nat)(t₀ : Trace)
def K9 (comps:List (SC ⊕ Nat))(gs:Array Goroutine)(w:World)(t:Trace)(j c:Nat)(b:List Value)(seen:Bool):Prop:=
 (∃s,comps[n0+j]?=some (.inl s)/\s.c=c/\b=s.vs/\seen=false/\D4 P Low s/\Keep Low s.O s.w w/\Zq c w/\
  (gs[n0+j]?=some s.g\/∃v z a,gs[n0+j]?=some (parked s.g #[scase c v z] .send)/\Keep Low s.O s.w a/\Zq c a/\stepG P false s.g a=.comm s.g #[scase c v z] true .send a #[]))\/
 (∃q y,comps[n0+j]?=some (.inr q)/\gs[n0+j]?=some y/\QuitsIn P q y/\b=[]/\JF c w/\Xk t (n0+j) c/\(seen=true->IU t (n0+j)))
structure PhI (x:RC)(ow:Nat->Nat->Prop)(comps:List (SC ⊕ Nat))(gs:Array Goroutine)(w:World)(t:Trace):Prop where
 pos:0<n0
 len:comps.length=gs.size
 c0:comps[0]?=some (.inr 0)
 siz:gs.size=n0+x.L.length
 run:x.g.status=.running
 keep:Keep Low x.O x.w w
 zero:gs[0]?=some x.g\/∃(j c:Nat) (vs:List Value) (z:Value) (w₀:World),x.L[j]?=some (c,vs,false)/\Keep Low x.O x.w w₀/\stepG P true x.g w₀=.comm x.g #[rcase c z] true (.recv true) w₀ #[]/\
  ((gs[0]?=some (parked x.g #[rcase c z] (.recv true))/\∃s,comps[n0+j]?=some (.inl s)/\gs[n0+j]?=some s.g)\/(gs[0]?=some {parked x.g #[rcase c z] (.recv true) with status:=.running}/\JF c w))
 old:∀i,0<i->i<n0->∃q y,comps[i]?=some (.inr q)/\gs[i]?=some y/\QuitsD P q (Deaf t i) y
 snd:∀(j c:Nat) (rem:List Value) (seen:Bool),x.L[j]?=some (c,rem,seen)->K9 P Low n0 comps gs w t j c rem seen
 own0:∀b,x.O b->ow 0 b
 ownS:∀j s,comps[n0+j]?=some (.inl s)->∀b,s.O b->ow (n0+j) b
 chan:∀(j c:Nat) (rem:List Value) (seen:Bool),x.L[j]?=some (c,rem,seen)->ow 0 c/\¬x.O c
 dist:∀(j k c:Nat) (r:List Value) (s:Bool) (r':List Value) (s':Bool),x.L[j]?=some (c,r,s)->x.L[k]?=some (c,r',s')->j=k
 ows:Ow Low ow w.heap.size
 low:Low<=w.heap.size
 tr:Tr Low n0 x.L.length t₀ t ow
end
section
variable {P : Program}{Low : Nat}{n0 : Nat}{t₀ : Trace}{x : RC}{ow : Nat -> Nat -> Prop}{comps : List (SC ⊕ Nat)}{gs : Array Goroutine}{w : World}{t : Trace}
theorem PhI.qt (h:PhI P Low n0 t₀ x ow comps gs w t):∀(i:Nat) (y:Goroutine),gs[i]?=some y->Qt w y:=by
 intro i y a;have H:=(Array.getElem?_eq_some_iff.1 a).1;rcases KA i with rfl | E
 ·rcases h.zero with b | ⟨j,c,vs,z,F,g,_,_,⟨b,s,B,_⟩ | ⟨b,_⟩⟩
  ·rw[b] at a;cases a;exact .inl (.inl h.run)
  ·rw[b] at a;cases a
   refine .inr (.inl ⟨_,c,z,_,rfl,?_⟩);rcases h.snd j c vs false g with⟨G,n,_,_,_,_,_,l,_⟩ | ⟨q,r,n,_⟩
   ·exact l
   ·rw[B] at n;cases n
  ·rw[b] at a;cases a;exact .inl (.inl rfl)
 ·rcases EZ i n0 with o | o
  ·obtain⟨q,r,_,d,f⟩:=h.old i E o
   rw[a] at d;cases d;exact .inl f.status
  ·obtain⟨j,rfl⟩:∃j,i=n0+j:=⟨i - n0,AQ⟩
   have C:j<x.L.length:=by have:=h.siz;omega
   obtain⟨⟨c,A,seen⟩,g⟩:∃e,x.L[j]?=some e:=⟨_,DX C⟩
   rcases h.snd j c A seen g with⟨s,_,_,_,_,D,_,l,m | ⟨v,z,F,m,_⟩⟩ | ⟨q,r,_,d,f,_⟩
   ·rw[m] at a;cases a;exact .inl (.inl D.inv.1)
   ·rw[m] at a;cases a;exact .inr (.inr ⟨_,c,v,z,_,rfl,l⟩)
   ·rw[d] at a;cases a;exact .inl f.status
theorem PhI.runs (h:PhI P Low n0 t₀ x ow comps gs w t):∃(i:Nat) (y:Goroutine),gs[i]?=some y/\y.status=.running:=by
 rcases h.zero with b | ⟨j,c,vs,z,m,e,_,_,⟨b,s,d,g⟩ | ⟨b,_⟩⟩
 ·exact⟨0,_,b,h.run⟩
 ·rcases h.snd j c vs false e with⟨n,a,_,_,_,f,_,_,_⟩ | ⟨q,l,a,_⟩
  ·rw[d] at a;cases a;exact⟨_,_,g,f.inv.1⟩
  ·rw[d] at a;cases a
 ·exact⟨0,_,b,rfl⟩
theorem PhI.at (h:PhI P Low n0 t₀ x ow comps gs w t)(d:Nat):PhI P Low n0 t₀ x ow comps gs (w.at d) t:=
 ⟨h.pos,h.len,h.c0,h.siz,h.run,h.keep.at d,h.zero,h.old,λj c n seen m=>(h.snd j c n seen m).imp (λ⟨s,a,b,c,l,e,f,g,i⟩=>⟨s,a,b,c,l,e,f.at d,g,i⟩) id,h.own0,h.ownS,h.chan,h.dist,h.ows,h.low,h.tr⟩
theorem PhI.acc (h:PhI P Low n0 t₀ x ow comps gs w t):Acc (RL (LD P Low)) comps:=by
 refine RL.acc λy d=>?_
 obtain⟨i,hi⟩:=List.mem_iff_getElem?.1 d;have r:i<comps.length:=by
  exact(List.getElem?_eq_some_iff.1 hi).1
 rcases KA i with rfl | o
 ·rw[h.c0] at hi
  cases hi;exact Xc P Low 0
 ·rcases EZ i n0 with b | b
  ·obtain⟨q,l,a,_⟩:=h.old i o b
   rw[a] at hi;cases hi;exact Xc P Low q
  ·obtain⟨j,rfl⟩:∃j,i=n0+j:=⟨i - n0,AQ⟩
   have g:j<x.L.length:=by have:=h.siz;have:=h.len;omega
   obtain⟨⟨c,f,seen⟩,m⟩:∃e,x.L[j]?=some e:=⟨_,DX g⟩
   rcases h.snd j c f seen m with⟨s,a,_,_,_,n,_⟩ | ⟨q,l,a,_⟩
   ·rw[a] at hi;cases hi;exact uz n.acc
   ·rw[a] at hi;cases hi;exact Xc P Low q
end
section
variable {es:Array Event}{g':Goroutine}{i j k:Nat}
variable {P : Program}{Low : Nat}{n0 : Nat}{t₀ : Trace}{x : RC}{ow : Nat -> Nat -> Prop}{comps jI : List (SC ⊕ Nat)}{gs gs' : Array Goroutine}{w w' : World}{t u : Trace}
theorem K9.turn {S:Nat->Prop}{c:Nat}{r:List Value}{seen:Bool}(h:K9 P Low n0 comps gs w t j c r seen)(p:jI[n0+j]?=comps[n0+j]?)(hg:gs'[n0+j]?=gs[n0+j]?)(hS:EM S w w')
  (A:∀s,comps[n0+j]?=some (.inl s)->∀b,s.O b->b<w.heap.size/\¬S b) (v:∀b,b<Low->b<w.heap.size/\¬S b) (o:¬S c) (hu:∀op∈u,op.g=n0+j->op.act.touch?=none):K9 P Low n0 jI gs' w' (t++u) j c r seen:=by
 rcases h with⟨s,a,n,d,e,m,l,f,z⟩ | ⟨q,y,a,n,d,e,m,l,f⟩
 ·exact .inl ⟨s,by rw[p];exact a,n,d,e,m,l.chg hS (A s a) v,f.chg hS o,by rw[hg];exact z⟩
 ·exact .inr ⟨q,y,by rw[p];exact a,by rw[hg];exact n,d,e,m.chg hS o,l.app hu,λB=>(f B).app hu⟩
theorem PhI.part (h:PhI P Low n0 t₀ x ow comps gs w t){S:Nat->Prop}(hS:∀b,S b->ow k b):
  (∀b,b<Low->b<w.heap.size/\¬S b)/\(∀(l:Nat) (O:Nat->Prop),l≠k->(∀b,O b->ow l b)->∀b,O b->b<w.heap.size/\¬S b):=
 ⟨λb a=>⟨CB a h.low,λd=>Nat.not_lt.2 (h.ows.low _ _ (hS b d)) a⟩,λ_l _O f e b a=>⟨h.ows.up _ _ (e b a),λd=>f (h.ows.apart _ _ _ (e b a) (hS b d))⟩⟩
def MQ (ow:Nat->Nat->Prop)(k:Nat)(w w':World):Nat->Nat->Prop:=λl b=>ow l b\/(l=k/\w.heap.size<=b/\b<w'.heap.size)
theorem Ow.grow (h:Ow Low ow w.heap.size)(k:Nat)(f:w.heap.size<=w'.heap.size)(hl:Low<=w.heap.size):Ow Low (MQ ow k w w') w'.heap.size:=by
 refine⟨λa b c d e=>?_,λa b d=>?_,λa b d=>?_⟩
 ·rcases d with d | ⟨rfl,d,_⟩<;>rcases e with e | ⟨rfl,e,_⟩
  ·exact h.apart _ _ _ d e
  ·exact absurd (h.up _ _ d) AQ
  ·exact absurd (h.up _ _ e) AQ
  ·rfl
 ·rcases d with d | ⟨rfl,d,_⟩
  ·exact h.low _ _ d
  ·omega
 ·rcases d with d | ⟨rfl,d,e⟩
  ·exact CB (h.up _ _ d) f
  ·exact e
theorem R9 {m:Nat}{O:Nat->Prop}(h:Tr Low n0 m t₀ t ow)(o:Ow Low ow w.heap.size)(hl:Low<=w.heap.size)(p:k=0\/∃j,j<m/\k=n0+j)(hS:EY Low O w w' es)(n:∀b,O b->ow k b)(fn:FuncId)(pos:String):
  Tr Low n0 m t₀ (t++MemOp.ofEvents k fn pos es) (MQ ow k w w'):=by
 refine(h.wider λa b d=>.inl d).app (o.grow k hS.size hl) p (λop l=>by obtain⟨e,_,rfl⟩:=Go.Conc.mem_ofEvents l;rfl) (λop l a f _=>?_) λt=>?_
 ·obtain⟨e,g,rfl⟩:=Go.Conc.mem_ofEvents l
  rcases hS.ev e g with⟨ad,wr,rfl,d⟩ | rfl
  case inr=>simp[MemAct.ofEvent,MemAct.touch?] at f
  simp[MemAct.ofEvent,MemAct.touch?] at f;subst f;refine .inl ⟨ad,wr,rfl,d.imp (λd=>?_) id⟩;rcases d with d | ⟨q,r⟩
  ·exact .inl (n _ d)
  ·exact .inr ⟨rfl,q,r⟩
 ·rw[Deaf_own]
  exact deafBehind_still (λe g=>by rcases hS.ev e g with⟨ad,wr,rfl,_⟩ | rfl<;>simp) _
theorem IY {q:Nat}{y:Goroutine}(h:QuitsD P q (Deaf t i) y)(hu:∀op∈u,op.g≠i):QuitsD P q (Deaf (t++u) i) y:=by
 have:Deaf (t++u) i=Deaf t i:=by
  obtain⟨l⟩:=u;rw[Deaf_append];induction l generalizing t with
  | nil=>rfl
  | cons y l d=>
   have a:=hu y AU;have b:deafStep i (Deaf t i) y=Deaf t i:=by unfold deafStep;split<;>simp[a]
   rw[List.foldl_cons,b];exact d h λop hop=>hu op yFc
 rw[this];exact h
theorem Bg {l:Nat}{g:Goroutine}(h:l≠i):(gs.setIfInBounds i g)[l]?=gs[l]?:=G0 (λe=>h e.symm)
theorem L8 {fn:FuncId}{pos:String}(h:k≠i):∀op∈MemOp.ofEvents k fn pos es,op.g≠i:=λop a=>by obtain⟨e,_,rfl⟩:=Go.Conc.mem_ofEvents a;exact h
theorem PhI.own0' (h:PhI P Low n0 t₀ x ow comps gs w t)(r:gs[0]?=some x.g)(hr:g'.status=.running)(hS:EY Low x.O w w' es)(fn:FuncId)(pos:String):
  PhI P Low n0 t₀ ⟨grown x.O w w',x.L,g',w'⟩ (MQ ow 0 w w') comps (gs.setIfInBounds 0 g') w' (t++MemOp.ofEvents 0 fn pos es):=by
 have v:=(Array.getElem?_eq_some_iff.1 r).1;obtain⟨A,B⟩:=h.part (S:=x.O) (k:=0) h.own0;have E:=h.pos;refine⟨h.pos,by simpa using h.len,h.c0,by simpa using h.siz,hr,Keep.refl _ _ _, .inl (by simp[v]),λi hi C=>?_,λj c f seen l=>?_,λb d=>?_,λj s n b d=>.inl (h.ownS j s n b d),λj c f seen l=>?_,h.dist,h.ows.grow 0 hS.size h.low,CJ h.low hS.size,R9 h.tr h.ows h.low (.inl rfl) hS h.own0 fn pos⟩
 ·obtain⟨q,y,m,o,z⟩:=h.old i hi C
  exact⟨q,y,m,by rw[Bg AQ];exact o,IY z (L8 AQ)⟩
 ·exact(h.snd j c f seen l).turn rfl (Bg AQ) hS.chg (λs n=>B (n0+j) s.O AQ (h.ownS j s n)) A (h.chan j c f seen l).2 (λop D e=>absurd e (L8 AQ op D))
 ·exact d.imp (h.own0 b) λ⟨a,b⟩=>⟨rfl,a,b⟩
 ·obtain⟨m,o⟩:=h.chan j c f seen l
  refine⟨.inl m,λd=>?_⟩;rcases d with d | ⟨d,_⟩
  ·exact o d
  ·exact absurd (h.ows.up _ _ m) AQ
theorem PhI.ownJ (h:PhI P Low n0 t₀ x ow comps gs w t){s:SC}(R:j<x.L.length)(v:comps[n0+j]?=some (.inl s))(hg:gs[n0+j]?=some s.g)(_hr:g'.status=.running)(hS:EY Low s.O w w' es)
  (T:D4 P Low ⟨s.c,grown s.O w w',s.vs,g',w'⟩) (fn:FuncId) (pos:String):
  PhI P Low n0 t₀ x (MQ ow (n0+j) w w') (comps.set (n0+j) (.inl ⟨s.c,grown s.O w w',s.vs,g',w'⟩)) (gs.setIfInBounds (n0+j) g') w' (t++MemOp.ofEvents (n0+j) fn pos es):=by
 have D:=(Array.getElem?_eq_some_iff.1 hg).1;have G:n0+j<comps.length:=by rw[h.len];exact D
 obtain⟨J,K⟩:=h.part (S:=s.O) (k:=n0+j) (h.ownS j s v);have Y:=h.pos;have C:∀l c m seen,x.L[l]?=some (c,m,seen)->¬s.O c:=λl c m seen N A=>by
  have:=h.ows.apart _ _ _ (h.chan l c m seen N).1 (h.ownS j s v c A)
  omega
 refine⟨h.pos,by simpa using h.len,by rw[CY AQ];exact h.c0,by simpa using h.siz,h.run,h.keep.chg hS.chg (K 0 x.O AQ h.own0) J,?_,λi hi U=>?_,λl c m seen o=>?_,λb A=>.inl (h.own0 b A),λl n B b A=>?_,λl c m seen o=>⟨.inl (h.chan l c m seen o).1,(h.chan l c m seen o).2⟩,h.dist,h.ows.grow _ hS.size h.low,CJ h.low hS.size,R9 h.tr h.ows h.low (.inr ⟨j,R,rfl⟩) hS (h.ownS j s v) fn pos⟩
 ·rcases h.zero with h0 | ⟨k,c,vs,z,M,a,b,I,⟨d,n,e,f⟩ | ⟨d,e⟩⟩
  ·exact .inl yFf
  ·refine .inr ⟨k,c,vs,z,M,a,b,I, .inl ⟨by rw[Bg AQ];exact d,?_⟩⟩
   by_cases W:k=j
   ·subst W
    exact⟨_,Db G,E9 D⟩
   ·exact⟨n,by rw[CY AQ];exact e,by rw[Bg AQ];exact f⟩
  ·exact .inr ⟨k,c,vs,z,M,a,b,I, .inr ⟨by rw[Bg AQ];exact d,e.chg hS.chg (C k c vs false a)⟩⟩
 ·obtain⟨q,y,r,H,F⟩:=h.old i hi U
  exact⟨q,y,by rw[CY AQ];exact r,by rw[Bg AQ];exact H,IY F (L8 AQ)⟩
 ·by_cases E:l=j
  ·subst E
   rcases h.snd l c m seen o with⟨n,r,H,F,Q,h5,Z,V,h8⟩ | ⟨q,y,r,_⟩
   ·rw[v] at r;cases r
    exact .inl ⟨_,Db G,H,F,Q,T,Keep.refl _ _ _,V.chg hS.chg (C l c m seen o), .inl (E9 D)⟩
   ·rw[v] at r;cases r
  ·exact(h.snd l c m seen o).turn (CY AQ) (Bg AQ) hS.chg (λn B=>K (n0+l) n.O AQ (h.ownS l n B)) J (C l c m seen o) (λop X e=>absurd e (L8 AQ op X))
 ·by_cases E:l=j
  ·subst E
   rw[Db G] at B;cases B;exact A.imp (h.ownS l s v b) λ⟨a,b⟩=>⟨rfl,a,b⟩
  ·rw[CY AQ] at B
   exact .inl (h.ownS l n B b A)
end
section
variable {c j:Nat}{g0:Goroutine}{vs vs':List Value}
variable {P : Program}{Low : Nat}{n0 : Nat}{t₀ : Trace}{x : RC}{ow : Nat -> Nat -> Prop}{comps jI : List (SC ⊕ Nat)}{gs gs' : Array Goroutine}{w w' : World}{t u : Trace}
theorem EM.same (w:World):EM (λ_=>False) w w:=⟨λ_ _ _=>rfl,CG _,rfl,rfl,rfl⟩
theorem JO {L:List (Nat × List Value × Bool)}{b g:Bool}(e:L[j]?=some (c,vs,b)){k d:Nat}{r:List Value}{s:Bool}(h:(L.set j (c,vs',g))[k]?=some (d,r,s)):∃l f,L[k]?=some (d,l,f):=by
 by_cases a:j=k
 ·subst a
  rw[Db (List.getElem?_eq_some_iff.1 e).1] at h;cases h;exact⟨_,_,e⟩
 ·rw[CY a] at h;exact⟨_,_,h⟩
theorem PhI.lt (h:PhI P Low n0 t₀ x ow comps gs w t){e:Nat × List Value × Bool}(a:x.L[j]?=some e):j<x.L.length/\n0+j<gs.size/\n0+j<comps.length:=by
 have b:=(List.getElem?_eq_some_iff.1 a).1;have:=h.siz
 have:=h.len
 omega
theorem PhI.meet (h:PhI P Low n0 t₀ x ow comps gs w t){v:Value}{s:SC}{G H:Nat}(f:x.L[j]?=some (c,v::vs',false))(E:comps[n0+j]?=some (.inl s))
  (Z:D4 P Low ⟨s.c,s.O,vs',Conc.served s.g undef,w⟩) (hr:g0.status=.running) (M:gs'.size=gs.size) (W:gs'[0]?=some g0) (hJ:gs'[n0+j]?=some (Conc.served s.g undef)) (U:∀l,l≠0->l≠n0+j->gs'[l]?=gs[l]?)
  (hu:∀op∈u,op.act.touch?=none/\(op.act≠.mark .disable/\op.act≠.mark .enable)/\(op.g=0\/op.g=n0+j)):
  PhI P Low n0 t₀ ⟨x.O,x.L.set j (c,vs',false),g0,w⟩ ow (comps.set (n0+j) (.inl ⟨s.c,s.O,vs',Conc.served s.g undef,w⟩)) gs' (w.setChan c 0 #[] false G H false) (t++u):=by
 have hn:=h.pos;obtain⟨X,ah,T⟩:=h.lt f;have I:EM (λb=>b=c) w (w.setChan c 0 #[] false G H false):=EM.put w c _;obtain⟨F,R⟩:=h.part (S:=λb=>b=c) (k:=0) (by rintro b rfl;exact(h.chan j _ _ _ f).1);have Y:∀b,x.O b->b<w.heap.size/\¬b=c:=λb z=>⟨h.ows.up _ _ (h.own0 b z),λe=>(h.chan j _ _ _ f).2 (e ▸ z)⟩
 have Q:(w.setChan c 0 #[] false G H false).heap.size=w.heap.size:=by simp[World.setChan]
 have ab:Tr Low n0 (x.L.set j (c,vs',false)).length t₀ (t++u) ow:=by
  rw[JJ];exact h.tr.silent λop n=>⟨(hu op n).1,λ_=>(hu op n).2.1⟩
 refine⟨h.pos,by rw[M];simpa using h.len,by rw[CY AQ];exact h.c0,by rw[M];simpa using h.siz,hr,(Keep.refl _ _ _).chg I Y F, .inl W,λi hi aa=>?_,λk m D seen C=>?_,h.own0,λk r o b z=>?_,λk m D seen C=>?_,λa b m ae s2 r' ag d A=>?_,by rw[Q];exact h.ows,by rw[Q];exact h.low,ab⟩
 ·obtain⟨q,y,d,A,N⟩:=h.old i hi aa
  exact⟨q,y,by rw[CY AQ];exact d,by rw[U i AQ AQ];exact A,IY N (λop n=>by rcases (hu op n).2.2 with e | e<;>omega)⟩
 ·by_cases B:j=k
  ·subst B
   have e:(x.L.set j (c,vs',false))[j]?=some (c,vs',false):=Db X;rw[show(x.L.set j (c,vs',false))[j]?=some (m,D,seen) from C] at e;cases e;rcases h.snd j c _ _ f with⟨r,d,A,N,h4,h5,h6,⟨a,b,h7⟩,h8⟩ | ⟨q,y,d,_⟩
   ·rw[E] at d;cases d
    refine .inl ⟨_,Db T,A,rfl,rfl,Z,(Keep.refl _ _ _).chg I (R (n0+j) s.O AQ (h.ownS j s E)) F,⟨_,_,heap_put h7⟩, .inl hJ⟩
   ·rw[E] at d;cases d
  ·have V:x.L[k]?=some (m,D,seen):=by rw[<-C];exact(CY B).symm
   exact(h.snd k m D seen V).turn (CY AQ) (U _ AQ AQ) I (λr o=>R (n0+k) r.O AQ (h.ownS k r o)) F (λe=>B (h.dist j k c _ _ _ _ f (e ▸ V))) (λop n _=>(hu op n).1)
 ·by_cases B:k=j
  ·subst B
   rw[Db T] at o;cases o;exact h.ownS k s E b z
  ·rw[CY AQ] at o
   exact h.ownS k r o b z
 ·obtain⟨K,J,e⟩:=JO f C
  exact h.chan k m K J e
 ·obtain⟨K,J,e⟩:=JO f d
  obtain⟨af,ac,e'⟩:=JO f A;exact h.dist a b m _ _ _ _ e e'
theorem PhI.seen (h:PhI P Low n0 t₀ x ow comps gs w t)(n:x.L[j]?=some (c,vs,false)){q:Nat}(I:comps[n0+j]?=some (.inr q))(hr:g0.status=.running)(E:gs'.size=gs.size)(H:gs'[0]?=some g0)
  (A:∀l,l≠0->gs'[l]?=gs[l]?) (fn:FuncId) (pos:String):
  PhI P Low n0 t₀ ⟨x.O,x.L.set j (c,[],true),g0,w⟩ ow comps gs' w (t++#[{g:=0,fn,pos,act:=.recvClosed c}]):=by
 have Y:=h.pos;obtain⟨J,af,ab⟩:=h.lt n;have hu:∀op∈(#[{g:=0,fn,pos,act:=.recvClosed c}]:Trace),op.g=0/\op.act.touch?=none/\op.act≠.mark .disable/\op.act≠.mark .enable:=by
  intro op d;have:op={g:=0,fn,pos,act:=.recvClosed c}:=by simpa using d
  subst this;exact⟨rfl,rfl,AU,AU⟩
 have Q:Tr Low n0 (x.L.set j (c,[],true)).length t₀ (t++#[{g:=0,fn,pos,act:=.recvClosed c}]) ow:=by
  rw[JJ];exact h.tr.silent λop d=>⟨(hu op d).2.1,λ_=>(hu op d).2.2⟩
 obtain⟨G,K⟩:=h.part (S:=λ_=>False) (k:=0) (λb R=>R.elim);refine⟨h.pos,by rw[E];exact h.len,h.c0,by rw[E];simpa using h.siz,hr,Keep.refl _ _ _, .inl H,λi hi M=>?_,λk m s seen r=>?_,h.own0,h.ownS,λk m s seen r=>?_,λa b m aa W X ae f o=>?_,h.ows,h.low,Q⟩
 ·obtain⟨q,y,f,o,z⟩:=h.old i hi M
  exact⟨q,y,f,by rw[A i AQ];exact o,IY z (λop d=>by have:=(hu op d).1;omega)⟩
 ·by_cases F:j=k
  ·subst F
   have e:(x.L.set j (c,[],true))[j]?=some (c,[],true):=Db J;rw[show(x.L.set j (c,[],true))[j]?=some (m,s,seen) from r] at e;cases e;rcases h.snd j c _ _ n with⟨v,f,_⟩ | ⟨q,y,f,o,z,h4,T,D,h7⟩
   ·rw[I] at f;cases f
   ·exact .inr ⟨q,y,f,by rw[A _ AQ];exact o,z,rfl,T,D.app (λop d _=>(hu op d).2.1),λ_=>D.known h.tr.hears fn pos⟩
  ·have U:x.L[k]?=some (m,s,seen):=by rw[<-r];exact(CY F).symm
   exact(h.snd k m s seen U).turn rfl (A _ AQ) (EM.same w) (λv V=>K (n0+k) v.O AQ (h.ownS k v V)) G id (λop d _=>(hu op d).2.1)
 ·obtain⟨C,B,e⟩:=JO n r
  exact h.chan k m C B e
 ·obtain⟨C,B,e⟩:=JO n f
  obtain⟨ac,Z,N⟩:=JO n o;exact h.dist a b m _ _ _ _ e N
theorem PhI.spawn (h:PhI P Low n0 t₀ x ow comps gs w t){g' child:Goroutine}(_h0:gs[0]?=some x.g)(M:x.O c)(hr:g'.status=.running)(Z:Zq c w)(hX:D4 P Low ⟨c,λ_=>False,vs,child,w⟩)(fn A:FuncId)(pos v:String):
  PhI P Low n0 t₀ ⟨λb=>x.O b/\b≠c,x.L++[(c,vs,false)],g',w⟩ ow (comps++[.inl ⟨c,λ_=>False,vs,child,w⟩]) ((gs.setIfInBounds 0 g').push child) w (t++#[{g:=0,fn,pos,act:=.go gs.size},{g:=gs.size,fn:=A,pos:=v,act:=.start}]):=by
 have hn:=h.pos;have C:=h.siz;have Q:=h.len;have hlt:0<gs.size:=AQ
 have ab:Tr Low n0 (x.L++[(c,vs,false)]).length t₀ (t++#[{g:=0,fn,pos,act:=.go gs.size},{g:=gs.size,fn:=A,pos:=v,act:=.start}]) ow:=by
  rw[CM,C];exact h.tr.spawn fn A pos v
 have hu:∀op∈(#[{g:=0,fn,pos,act:=.go gs.size},{g:=gs.size,fn:=A,pos:=v,act:=.start}]:Trace),(op.g=0\/op.g=gs.size)/\op.act.touch?=none:=by
  intro op z;have:op={g:=0,fn,pos,act:=.go gs.size}\/op={g:=gs.size,fn:=A,pos:=v,act:=.start}:=by simpa using z
  rcases this with rfl | rfl
  ·exact⟨.inl rfl,rfl⟩
  ·exact⟨.inr rfl,rfl⟩
 have R:∀l,l≠0->l<gs.size->((gs.setIfInBounds 0 g').push child)[l]?=gs[l]?:=λl J hlt=>by
  rw[RJ BZ];rw[<-JI];exact Bg J
 have D:∀l,l<comps.length->(comps++[.inl ⟨c,λ_=>False,vs,child,w⟩])[l]?=comps[l]?:=λl J=>eR J
 obtain⟨W,hO⟩:=h.part (S:=λ_=>False) (k:=0) (λb e=>e.elim);have s:∀k d f seen,(x.L++[(c,vs,false)])[k]?=some (d,f,seen)->(k<x.L.length/\x.L[k]?=some (d,f,seen))\/(k=x.L.length/\d=c/\f=vs/\seen=false):=by
  intro k d f seen n;rcases EZ k x.L.length with hlt | H
  ·rw[eR hlt] at n;exact .inl ⟨hlt,n⟩
  ·rw[MV H] at n
   obtain⟨m,rfl⟩:∃m,k=x.L.length+m:=⟨k - x.L.length,AQ⟩
   cases m with
   | zero=>simp at n;exact .inr ⟨rfl,n.1.symm,n.2.1.symm,n.2.2⟩
   | succ m=>simp at n
 refine⟨h.pos,by simp[Q],by rw[D 0 AQ];exact h.c0,by simp[C];omega,hr,Keep.refl _ _ _, .inl ?_,λi hi aa=>?_,λk d f seen G=>?_,λb e=>h.own0 b e.1,λk B o b e=>?_,λk d f seen G=>?_,λa b d r V N T K E=>?_,h.ows,h.low,ab⟩
 ·rw[RJ BZ];simp
 ·obtain⟨q,y,K,E,Y⟩:=h.old i hi aa
  exact⟨q,y,by rw[D i AQ];exact K,by rw[R i AQ AQ];exact E,IY Y (λop z=>by rcases (hu op z).1 with ac | ac<;>omega)⟩
 ·rcases s k d f seen G with⟨n,F⟩ | ⟨rfl,rfl,rfl,rfl⟩
  ·exact(h.snd k d f seen F).turn (D _ AQ) (R _ AQ AQ) (EM.same w) (λB o=>hO (n0+k) B.O AQ (h.ownS k B o)) W id (λop z _=>(hu op z).2)
  ·refine .inl ⟨_,?_,rfl,rfl,rfl,hX,Keep.refl _ _ _,Z, .inl ?_⟩
   ·rw[<-C,<-Q];simp
   ·rw[<-C]
    have:gs.size=(gs.setIfInBounds 0 g').size:=AU
    rw[this];exact M3
 ·rcases EZ (n0+k) comps.length with hlt | H
  ·rw[D _ hlt] at o
   exact h.ownS k B o b e
  ·rw[MV H] at o
   obtain⟨m,X⟩:∃m,n0+k - comps.length=m:=⟨_,rfl⟩
   rw[X] at o;cases m with
   | zero=>simp at o;subst o;exact e.elim
   | succ m=>simp at o
 ·rcases s k d f seen G with⟨n,F⟩ | ⟨rfl,rfl,rfl,rfl⟩
  ·exact⟨(h.chan k d f seen F).1,λe=>(h.chan k d f seen F).2 e.1⟩
  ·exact⟨h.own0 _ M,λe=>e.2 rfl⟩
 ·rcases s a d r V K with⟨ha,U⟩ | ⟨rfl,rfl,rfl,rfl⟩
  ·rcases s b d N T E with⟨e,I⟩ | ⟨rfl,rfl,rfl,rfl⟩
   ·exact h.dist a b d _ _ _ _ U I
   ·exact absurd M (h.chan a _ _ _ U).2
  ·rcases s b d N T E with⟨e,I⟩ | ⟨rfl,_,rfl,rfl⟩
   ·exact absurd M (h.chan b _ _ _ I).2
   ·rfl
end
