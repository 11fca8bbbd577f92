import Derived.Test.YtfeablpbkcgdjaaGreatDoorCD2
set_option linter.defProp false
namespace Go.Co
open Go.Conc
open Go.ConcN (sumTo upd sumTo_upd upd_ne upd_same)
variable {Low c:Nat}{w':World}{y:Goroutine}
structure EM (S:Nat->Prop)(w w':World):Prop where
 rest:∀b,b<w.heap.size->¬S b->w'.heap[b]?=w.heap[b]?
 size:w.heap.size<=w'.heap.size
 tape:w'.tape=w.tape
 os:w'.os=w.os
 out:w'.output=w.output
def EX.chg {O:Nat->Prop}{w:World}{es:Array Event}(h:EX Low O w w' es):EM O w w':=⟨h.rest,h.size,h.tape,h.os,h.out⟩
def EM.put (w:World)(c:Nat)(o:Obj):EM (λb=>b=c) w {w with heap:=w.heap.setIfInBounds c o}:=
 ⟨λb _ a=>GZ (λe=>a e.symm),AW,rfl,rfl,rfl⟩
def Keep.chg {O S:Nat->Prop}{g w:World}(h:Keep Low O g w)(d:EM S w w')(f:∀b,O b->b<w.heap.size/\¬S b)(e:∀b,b<Low->b<w.heap.size/\¬S b):Keep Low O g w':=
 ⟨λb a=>(d.rest b (e b a).1 (e b a).2).trans (h.still b a),λb a=>(d.rest b (f b a).1 (f b a).2).trans (h.mine b a),CB h.size d.size,d.tape.trans h.tape,d.os.trans h.os,d.out.trans h.out⟩
def X9.chg {S:Nat->Prop}{w:World}(h:X9 c w)(b:EM S w w')(hS:¬S c):X9 c w':=by
 obtain⟨s,r,e⟩:=h;have a:=(Array.getElem?_eq_some_iff.1 e).1;exact⟨s,r,(b.rest c a hS).trans e⟩
def Ix.chg {S:Nat->Prop}{w:World}(h:Ix c w)(b:EM S w w')(hS:¬S c):Ix c w':=by
 obtain⟨s,r,e⟩:=h;have a:=(Array.getElem?_eq_some_iff.1 e).1;exact⟨s,r,(b.rest c a hS).trans e⟩
def Qt (w:World)(y:Goroutine):Prop:=
 (y.status=.running\/y.status=.finished)\/(∃g c z a,y=parked g #[rcase c z] a/\X9 c w)\/∃g c v z a,y=parked g #[scase c v z] a/\X9 c w
theorem Qt.woken {P:Program}{w:World}{a d:Goroutine}(h:Qt w y):woken P a d w y=y:=by
 rcases h with h | ⟨g,c,z,e,rfl,s,r,b⟩ | ⟨g,c,v,z,e,rfl,s,r,b⟩
 .unfold Conc.woken
  split
  .exact again_running _ h
  .rfl
 .exact woken_recv_open a d b
 .exact woken_send_open a d b
theorem Qt.awake {w:World}(h:Qt w y):awake y:=by
 intro t a;rcases h with h | ⟨g,c,z,b,rfl,_⟩ | ⟨g,c,v,z,b,rfl,_⟩
 .rcases h with h | h<;>rw[h] at a<;>cases a
 .cases a
 .cases a
theorem Xv {gs:Array Goroutine}{i:Nat}{f:Goroutine->Goroutine}{g':Goroutine}(h:∀l y,l≠i->gs[l]?=some y->f y=y):(gs.map f).setIfInBounds i g'=gs.setIfInBounds i g':=by
 apply Array.ext_getElem?;intro l;by_cases a:i=l
 .subst a
  by_cases hlt:i<gs.size
  .rw[FB BU,FB hlt]
  .rw[LK BU,LK BU]
 .rw[GZ a,GZ a,JZ]
  cases b:gs[l]? with
  | none=>rfl
  | some y=>simp[h l y (λe=>a e.symm) b]
def cnt:List Goroutine->Nat
 | []=>0
 | g::l=>(if g.status=.blocked then 0 else 1)+cnt l
theorem YD:∀{l:List Goroutine} {i:Nat} {x y:Goroutine},l[i]?=some x->x.status≠.blocked->y.status=.blocked->cnt (l.set i y)<cnt l:=by
 intro l;induction l with
 | nil=>intro i x y h;simp at h
 | cons a l e=>
  intro i x y h d b;cases i with
  | zero=>
   simp at h;subst h;simp only[List.set_cons_zero,cnt,b,if_true,d,C5];omega
  | succ i=>
   simp at h;have:=e h d b
   simp only[List.set_cons_succ,cnt];omega
section
variable (P : Program)(Low : Nat)(n0 : Nat)(t₀ : Trace)
def K8 (comps:List (SC ⊕ Nat))(gs:Array Goroutine)(w:World)(t:Trace)(j c:Nat)(b:List Value)(seen:Bool):Prop:=
 (∃s,comps[n0+j]?=some (.inl s)/\s.c=c/\b=s.vs/\seen=false/\D2 P Low s/\Keep Low s.O s.w w/\X9 c w/\
  (gs[n0+j]?=some s.g\/∃v z a,gs[n0+j]?=some (parked s.g #[scase c v z] .send)/\Keep Low s.O s.w a/\X9 c a/\stepG P false s.g a=.comm s.g #[scase c v z] true .send a #[]))\/
 (∃q y,comps[n0+j]?=some (.inr q)/\gs[n0+j]?=some y/\QuitsIn P q y/\b=[]/\Ix c w/\Vt t (n0+j) c/\(seen=true->Zc t (n0+j)))
structure PhI (x:RC)(ow:Nat->Nat->Prop)(comps:List (SC ⊕ Nat))(gs:Array Goroutine)(w:World)(t:Trace):Prop where
 pos:0<n0
 len:comps.length=gs.size
 c0:comps[0]?=some (.inr 0)
 siz:gs.size=n0+x.L.length
 run:x.g.status=.running
 keep:Keep Low x.O x.w w
 zero:gs[0]?=some x.g\/∃(j c:Nat) (vs:List Value) (z:Value) (w₀:World),x.L[j]?=some (c,vs,false)/\Keep Low x.O x.w w₀/\stepG P true x.g w₀=.comm x.g #[rcase c z] true (.recv true) w₀ #[]/\
  ((gs[0]?=some (parked x.g #[rcase c z] (.recv true))/\∃s,comps[n0+j]?=some (.inl s)/\gs[n0+j]?=some s.g)\/(gs[0]?=some {parked x.g #[rcase c z] (.recv true) with status:=.running}/\Ix c w))
 old:∀i,0<i->i<n0->∃q y,comps[i]?=some (.inr q)/\gs[i]?=some y/\QuitsD P q (Deaf t i) y
 snd:∀(j c:Nat) (rem:List Value) (seen:Bool),x.L[j]?=some (c,rem,seen)->K8 P Low n0 comps gs w t j c rem seen
 own0:∀b,x.O b->ow 0 b
 ownS:∀j s,comps[n0+j]?=some (.inl s)->∀b,s.O b->ow (n0+j) b
 chan:∀(j c:Nat) (rem:List Value) (seen:Bool),x.L[j]?=some (c,rem,seen)->ow 0 c/\¬x.O c
 dist:∀(j k c:Nat) (r:List Value) (s:Bool) (r':List Value) (s':Bool),x.L[j]?=some (c,r,s)->x.L[k]?=some (c,r',s')->j=k
 ows:Ow Low ow w.heap.size
 low:Low<=w.heap.size
 tr:Tr Low n0 x.L.length t₀ t ow
end
section
variable {P : Program}{Low : Nat}{n0 : Nat}{t₀ : Trace}{x : RC}{ow : Nat -> Nat -> Prop}{comps : List (SC ⊕ Nat)}{gs : Array Goroutine}{w : World}{t : Trace}
theorem PhI.qt (h:PhI P Low n0 t₀ x ow comps gs w t):∀(i:Nat) (y:Goroutine),gs[i]?=some y->Qt w y:=by
 intro i y a;have H:=(Array.getElem?_eq_some_iff.1 a).1;rcases JB i with rfl | C
 .rcases h.zero with b | ⟨j,c,vs,z,F,l,_,_,⟨b,s,B,_⟩ | ⟨b,_⟩⟩
  .rw[b] at a;cases a;exact .inl (.inl h.run)
  .rw[b] at a;cases a
   refine .inr (.inl ⟨_,c,z,_,rfl,?_⟩);rcases h.snd j c vs false l with⟨G,m,_,_,_,_,_,g,_⟩ | ⟨q,r,m,_⟩
   .exact g
   .rw[B] at m;cases m
  .rw[b] at a;cases a;exact .inl (.inl rfl)
 .rcases EV i n0 with o | o
  .obtain⟨q,r,_,d,f⟩:=h.old i C o
   rw[a] at d;cases d;exact .inl f.status
  .obtain⟨j,rfl⟩:∃j,i=n0+j:=⟨i - n0,AU⟩
   have E:j<x.L.length:=by have:=h.siz;omega
   obtain⟨⟨c,D,seen⟩,l⟩:∃e,x.L[j]?=some e:=⟨_,D1 E⟩
   rcases h.snd j c D seen l with⟨s,_,_,_,_,A,_,g,n | ⟨v,z,F,n,_⟩⟩ | ⟨q,r,_,d,f,_⟩
   .rw[n] at a;cases a;exact .inl (.inl A.inv.1)
   .rw[n] at a;cases a;exact .inr (.inr ⟨_,c,v,z,_,rfl,g⟩)
   .rw[d] at a;cases a;exact .inl f.status
theorem PhI.runs (h:PhI P Low n0 t₀ x ow comps gs w t):∃(i:Nat) (y:Goroutine),gs[i]?=some y/\y.status=.running:=by
 rcases h.zero with b | ⟨j,c,vs,z,n,f,_,_,⟨b,s,d,g⟩ | ⟨b,_⟩⟩
 .exact⟨0,_,b,h.run⟩
 .rcases h.snd j c vs false f with⟨l,a,_,_,_,e,_,_,_⟩ | ⟨q,m,a,_⟩
  .rw[d] at a;cases a;exact⟨_,_,g,e.inv.1⟩
  .rw[d] at a;cases a
 .exact⟨0,_,b,rfl⟩
theorem PhI.at (h:PhI P Low n0 t₀ x ow comps gs w t)(d:Nat):PhI P Low n0 t₀ x ow comps gs (w.at d) t:=
 ⟨h.pos,h.len,h.c0,h.siz,h.run,h.keep.at d,h.zero,h.old,λj c n seen m=>(h.snd j c n seen m).imp (λ⟨s,a,b,c,l,e,f,g,i⟩=>⟨s,a,b,c,l,e,f.at d,g,i⟩) id,h.own0,h.ownS,h.chan,h.dist,h.ows,h.low,h.tr⟩
theorem PhI.acc (h:PhI P Low n0 t₀ x ow comps gs w t):Acc (RL (LH P Low)) comps:=by
 refine RL.acc λy f=>?_
 obtain⟨i,hi⟩:=List.mem_iff_getElem?.1 f;have r:i<comps.length:=by
  exact(List.getElem?_eq_some_iff.1 hi).1
 rcases JB i with rfl | l
 .rw[h.c0] at hi
  cases hi;exact Vm P Low 0
 .rcases EV i n0 with b | b
  .obtain⟨q,n,a,_⟩:=h.old i l b
   rw[a] at hi;cases hi;exact Vm P Low q
  .obtain⟨j,rfl⟩:∃j,i=n0+j:=⟨i - n0,AU⟩
   have o:j<x.L.length:=by have:=h.siz;have:=h.len;omega
   obtain⟨⟨c,m,seen⟩,g⟩:∃e,x.L[j]?=some e:=⟨_,D1 o⟩
   rcases h.snd j c m seen g with⟨s,a,_,_,_,d,_⟩ | ⟨q,n,a,_⟩
   .rw[a] at hi;cases hi;exact oH d.acc
   .rw[a] at hi;cases hi;exact Vm P Low q
end
section
variable {es:Array Event}{g':Goroutine}{i j k:Nat}
variable {P : Program}{Low : Nat}{n0 : Nat}{t₀ : Trace}{x : RC}{ow : Nat -> Nat -> Prop}{comps fE : List (SC ⊕ Nat)}{gs gs' : Array Goroutine}{w w' : World}{t u : Trace}
theorem K8.turn {S:Nat->Prop}{c:Nat}{p:List Value}{seen:Bool}(h:K8 P Low n0 comps gs w t j c p seen)(o:fE[n0+j]?=comps[n0+j]?)(hg:gs'[n0+j]?=gs[n0+j]?)(hS:EM S w w')
  (z:∀s,comps[n0+j]?=some (.inl s)->∀b,s.O b->b<w.heap.size/\¬S b) (B:∀b,b<Low->b<w.heap.size/\¬S b) (r:¬S c) (hu:∀op∈u,op.g=n0+j->op.act.touch?=none):K8 P Low n0 fE gs' w' (t++u) j c p seen:=by
 rcases h with⟨s,a,m,d,e,n,f,l,v⟩ | ⟨q,y,a,m,d,e,n,f,l⟩
 .exact .inl ⟨s,by rw[o];exact a,m,d,e,n,f.chg hS (z s a) B,l.chg hS r,by rw[hg];exact v⟩
 .exact .inr ⟨q,y,by rw[o];exact a,by rw[hg];exact m,d,e,n.chg hS r,f.app hu,λA=>(l A).app hu⟩
def PhI.part (h:PhI P Low n0 t₀ x ow comps gs w t){S:Nat->Prop}(hS:∀b,S b->ow k b):
  (∀b,b<Low->b<w.heap.size/\¬S b)/\(∀(l:Nat) (O:Nat->Prop),l≠k->(∀b,O b->ow l b)->∀b,O b->b<w.heap.size/\¬S b):=
 ⟨λb a=>⟨B8 a h.low,λd=>Nat.not_lt.2 (h.ows.low _ _ (hS b d)) a⟩,λ_l _O f e b a=>⟨h.ows.up _ _ (e b a),λd=>f (h.ows.apart _ _ _ (e b a) (hS b d))⟩⟩
def MF (ow:Nat->Nat->Prop)(k:Nat)(w w':World):Nat->Nat->Prop:=λl b=>ow l b\/(l=k/\w.heap.size<=b/\b<w'.heap.size)
theorem Ow.grow (h:Ow Low ow w.heap.size)(k:Nat)(f:w.heap.size<=w'.heap.size)(hl:Low<=w.heap.size):Ow Low (MF ow k w w') w'.heap.size:=by
 refine⟨λa b c d e=>?_,λa b d=>?_,λa b d=>?_⟩
 .rcases d with d | ⟨rfl,d,_⟩<;>rcases e with e | ⟨rfl,e,_⟩
  .exact h.apart _ _ _ d e
  .exact absurd (h.up _ _ d) AU
  .exact absurd (h.up _ _ e) AU
  .rfl
 .rcases d with d | ⟨rfl,d,_⟩
  .exact h.low _ _ d
  .omega
 .rcases d with d | ⟨rfl,d,e⟩
  .exact B8 (h.up _ _ d) f
  .exact e
theorem P2 {m:Nat}{O:Nat->Prop}(h:Tr Low n0 m t₀ t ow)(p:Ow Low ow w.heap.size)(hl:Low<=w.heap.size)(o:k=0\/∃j,j<m/\k=n0+j)(hS:EX Low O w w' es)(r:∀b,O b->ow k b)(fn:FuncId)(pos:String):
  Tr Low n0 m t₀ (t++MemOp.ofEvents k fn pos es) (MF ow k w w'):=by
 refine(h.wider λa b d=>.inl d).app (p.grow k hS.size hl) o (λop g=>by obtain⟨e,_,rfl⟩:=Go.Conc.mem_ofEvents g;rfl) (λop g a l _=>?_) λt=>?_
 .obtain⟨e,f,rfl⟩:=Go.Conc.mem_ofEvents g
  rcases hS.ev e f with⟨n,wr,rfl,d⟩ | rfl
  case inr=>simp[MemAct.ofEvent,MemAct.touch?] at l
  simp[MemAct.ofEvent,MemAct.touch?] at l;subst l;refine .inl ⟨n,wr,rfl,d.imp (λd=>?_) id⟩;rcases d with d | ⟨q,s⟩
  .exact .inl (r _ d)
  .exact .inr ⟨rfl,q,s⟩
 .rw[Deaf_own]
  exact deafBehind_still (λe f=>by rcases hS.ev e f with⟨n,wr,rfl,_⟩ | rfl<;>simp) _
def Yu {q:Nat}{y:Goroutine}(h:QuitsD P q (Deaf t i) y)(hu:∀op∈u,op.g≠i):QuitsD P q (Deaf (t++u) i) y:=by
 have:Deaf (t++u) i=Deaf t i:=by
  obtain⟨l⟩:=u;rw[Deaf_append];induction l generalizing t with
  | nil=>rfl
  | cons y l d=>
   have b:=hu y AW;have a:deafStep i (Deaf t i) y=Deaf t i:=by unfold deafStep;split<;>simp[b]
   rw[List.foldl_cons,a];exact d h λop hop=>hu op yEd
 rw[this];exact h
def A7 {l:Nat}{g:Goroutine}(h:l≠i):(gs.setIfInBounds i g)[l]?=gs[l]?:=GZ (λe=>h e.symm)
def Js {fn:FuncId}{pos:String}(h:k≠i):∀op∈MemOp.ofEvents k fn pos es,op.g≠i:=λop a=>by obtain⟨e,_,rfl⟩:=Go.Conc.mem_ofEvents a;exact h
theorem PhI.own0' (h:PhI P Low n0 t₀ x ow comps gs w t)(h0:gs[0]?=some x.g)(hr:g'.status=.running)(hS:EX Low x.O w w' es)(fn:FuncId)(pos:String):
  PhI P Low n0 t₀ ⟨grown x.O w w',x.L,g',w'⟩ (MF ow 0 w w') comps (gs.setIfInBounds 0 g') w' (t++MemOp.ofEvents 0 fn pos es):=by
 have A:=(Array.getElem?_eq_some_iff.1 h0).1;obtain⟨z,v⟩:=h.part (S:=x.O) (k:=0) h.own0;have D:=h.pos;refine⟨h.pos,by simpa using h.len,h.c0,by simpa using h.siz,hr,Keep.refl _ _ _, .inl (by simp[A]),λi hi C=>?_,λj c l seen f=>?_,λb d=>?_,λj s n b d=>.inl (h.ownS j s n b d),λj c l seen f=>?_,h.dist,h.ows.grow 0 hS.size h.low,CB h.low hS.size,P2 h.tr h.ows h.low (.inl rfl) hS h.own0 fn pos⟩
 .obtain⟨q,y,m,o,r⟩:=h.old i hi C
  exact⟨q,y,m,by rw[A7 AU];exact o,Yu r (Js AU)⟩
 .exact(h.snd j c l seen f).turn rfl (A7 AU) hS.chg (λs n=>v (n0+j) s.O AU (h.ownS j s n)) z (h.chan j c l seen f).2 (λop B e=>absurd e (Js AU op B))
 .exact d.imp (h.own0 b) λ⟨a,b⟩=>⟨rfl,a,b⟩
 .obtain⟨m,o⟩:=h.chan j c l seen f
  refine⟨.inl m,λd=>?_⟩;rcases d with d | ⟨d,_⟩
  .exact o d
  .exact absurd (h.ows.up _ _ m) AU
theorem PhI.ownJ (h:PhI P Low n0 t₀ x ow comps gs w t){s:SC}(V:j<x.L.length)(A:comps[n0+j]?=some (.inl s))(hg:gs[n0+j]?=some s.g)(_hr:g'.status=.running)(hS:EX Low s.O w w' es)
  (T:D2 P Low ⟨s.c,grown s.O w w',s.vs,g',w'⟩) (fn:FuncId) (pos:String):
  PhI P Low n0 t₀ x (MF ow (n0+j) w w') (comps.set (n0+j) (.inl ⟨s.c,grown s.O w w',s.vs,g',w'⟩)) (gs.setIfInBounds (n0+j) g') w' (t++MemOp.ofEvents (n0+j) fn pos es):=by
 have H:=(Array.getElem?_eq_some_iff.1 hg).1;have D:n0+j<comps.length:=by rw[h.len];exact H
 obtain⟨J,I⟩:=h.part (S:=s.O) (k:=n0+j) (h.ownS j s A);have Y:=h.pos;have G:∀l c m seen,x.L[l]?=some (c,m,seen)->¬s.O c:=λl c m seen X v=>by
  have:=h.ows.apart _ _ _ (h.chan l c m seen X).1 (h.ownS j s A c v)
  omega
 refine⟨h.pos,by simpa using h.len,by rw[C7 AU];exact h.c0,by simpa using h.siz,h.run,h.keep.chg hS.chg (I 0 x.O AU h.own0) J,?_,λi hi W=>?_,λl c m seen n=>?_,λb v=>.inl (h.own0 b v),λl o B b v=>?_,λl c m seen n=>⟨.inl (h.chan l c m seen n).1,(h.chan l c m seen n).2⟩,h.dist,h.ows.grow _ hS.size h.low,CB h.low hS.size,P2 h.tr h.ows h.low (.inr ⟨j,V,rfl⟩) hS (h.ownS j s A) fn pos⟩
 .rcases h.zero with h0 | ⟨k,c,vs,z,M,a,b,K,⟨d,o,e,f⟩ | ⟨d,e⟩⟩
  .exact .inl yEf
  .refine .inr ⟨k,c,vs,z,M,a,b,K, .inl ⟨by rw[A7 AU];exact d,?_⟩⟩
   by_cases R:k=j
   .subst R
    exact⟨_,EY D,FB H⟩
   .exact⟨o,by rw[C7 AU];exact e,by rw[A7 AU];exact f⟩
  .exact .inr ⟨k,c,vs,z,M,a,b,K, .inr ⟨by rw[A7 AU];exact d,e.chg hS.chg (G k c vs false a)⟩⟩
 .obtain⟨q,y,r,F,C⟩:=h.old i hi W
  exact⟨q,y,by rw[C7 AU];exact r,by rw[A7 AU];exact F,Yu C (Js AU)⟩
 .by_cases E:l=j
  .subst E
   rcases h.snd l c m seen n with⟨o,r,F,C,N,Z,h6,Q,h8⟩ | ⟨q,y,r,_⟩
   .rw[A] at r;cases r
    exact .inl ⟨_,EY D,F,C,N,T,Keep.refl _ _ _,Q.chg hS.chg (G l c m seen n), .inl (FB H)⟩
   .rw[A] at r;cases r
  .exact(h.snd l c m seen n).turn (C7 AU) (A7 AU) hS.chg (λo B=>I (n0+l) o.O AU (h.ownS l o B)) J (G l c m seen n) (λop U e=>absurd e (Js AU op U))
 .by_cases E:l=j
  .subst E
   rw[EY D] at B;cases B;exact v.imp (h.ownS l s A b) λ⟨a,b⟩=>⟨rfl,a,b⟩
  .rw[C7 AU] at B
   exact .inl (h.ownS l o B b v)
end
section
variable {c j:Nat}{g0:Goroutine}{vs vs':List Value}
variable {P : Program}{Low : Nat}{n0 : Nat}{t₀ : Trace}{x : RC}{ow : Nat -> Nat -> Prop}{comps fE : List (SC ⊕ Nat)}{gs gs' : Array Goroutine}{w w' : World}{t u : Trace}
def EM.same (w:World):EM (λ_=>False) w w:=⟨λ_ _ _=>rfl,B7 _,rfl,rfl,rfl⟩
theorem JA {L:List (Nat × List Value × Bool)}{b l:Bool}(d:L[j]?=some (c,vs,b)){k e:Nat}{r:List Value}{s:Bool}(h:(L.set j (c,vs',l))[k]?=some (e,r,s)):∃f g,L[k]?=some (e,f,g):=by
 by_cases a:j=k
 .subst a
  rw[EY (List.getElem?_eq_some_iff.1 d).1] at h;cases h;exact⟨_,_,d⟩
 .rw[C7 a] at h;exact⟨_,_,h⟩
def PhI.lt (h:PhI P Low n0 t₀ x ow comps gs w t){e:Nat × List Value × Bool}(a:x.L[j]?=some e):j<x.L.length/\n0+j<gs.size/\n0+j<comps.length:=by
 have b:=(List.getElem?_eq_some_iff.1 a).1;have:=h.siz
 have:=h.len
 omega
theorem PhI.meet (h:PhI P Low n0 t₀ x ow comps gs w t){v:Value}{s:SC}{G H:Nat}(f:x.L[j]?=some (c,v::vs',false))(C:comps[n0+j]?=some (.inl s))
  (hX:D2 P Low ⟨s.c,s.O,vs',Conc.served s.g undef,w⟩) (hr:g0.status=.running) (T:gs'.size=gs.size) (h0:gs'[0]?=some g0) (Z:gs'[n0+j]?=some (Conc.served s.g undef)) (N:∀l,l≠0->l≠n0+j->gs'[l]?=gs[l]?)
  (hu:∀op∈u,op.act.touch?=none/\(op.act≠.mark .disable/\op.act≠.mark .enable)/\(op.g=0\/op.g=n0+j)):
  PhI P Low n0 t₀ ⟨x.O,x.L.set j (c,vs',false),g0,w⟩ ow (comps.set (n0+j) (.inl ⟨s.c,s.O,vs',Conc.served s.g undef,w⟩)) gs' (w.setChan c 0 #[] false G H false) (t++u):=by
 have hn:=h.pos;obtain⟨hj,ac,Q⟩:=h.lt f;have F:EM (λb=>b=c) w (w.setChan c 0 #[] false G H false):=EM.put w c _;obtain⟨I,M⟩:=h.part (S:=λb=>b=c) (k:=0) (by rintro b rfl;exact(h.chan j _ _ _ f).1);have W:∀b,x.O b->b<w.heap.size/\¬b=c:=λb r=>⟨h.ows.up _ _ (h.own0 b r),λe=>(h.chan j _ _ _ f).2 (e ▸ r)⟩
 have U:(w.setChan c 0 #[] false G H false).heap.size=w.heap.size:=by simp[World.setChan]
 have Y:Tr Low n0 (x.L.set j (c,vs',false)).length t₀ (t++u) ow:=by
  rw[Gk];exact h.tr.silent λop o=>⟨(hu op o).1,λ_=>(hu op o).2.1⟩
 refine⟨h.pos,by rw[T];simpa using h.len,by rw[C7 AU];exact h.c0,by rw[T];simpa using h.siz,hr,(Keep.refl _ _ _).chg F W I, .inl h0,λi hi aa=>?_,λk m D seen E=>?_,h.own0,λk z n b r=>?_,λk m D seen E=>?_,λa b m af s2 r' ad d A=>?_,by rw[U];exact h.ows,by rw[U];exact h.low,Y⟩
 .obtain⟨q,y,d,A,K⟩:=h.old i hi aa
  exact⟨q,y,by rw[C7 AU];exact d,by rw[N i AU AU];exact A,Yu K (λop o=>by rcases (hu op o).2.2 with e | e<;>omega)⟩
 .by_cases B:j=k
  .subst B
   have e:(x.L.set j (c,vs',false))[j]?=some (c,vs',false):=EY hj;rw[show(x.L.set j (c,vs',false))[j]?=some (m,D,seen) from E] at e;cases e;rcases h.snd j c _ _ f with⟨z,d,A,K,h4,h5,h6,⟨a,b,X⟩,h8⟩ | ⟨q,y,d,_⟩
   .rw[C] at d;cases d
    refine .inl ⟨_,EY Q,A,rfl,rfl,hX,(Keep.refl _ _ _).chg F (M (n0+j) s.O AU (h.ownS j s C)) I,⟨_,_,heap_put X⟩, .inl Z⟩
   .rw[C] at d;cases d
  .have V:x.L[k]?=some (m,D,seen):=by rw[<-E];exact(C7 B).symm
   exact(h.snd k m D seen V).turn (C7 AU) (N _ AU AU) F (λz n=>M (n0+k) z.O AU (h.ownS k z n)) I (λe=>B (h.dist j k c _ _ _ _ f (e ▸ V))) (λop o _=>(hu op o).1)
 .by_cases B:k=j
  .subst B
   rw[EY Q] at n;cases n;exact h.ownS k s C b r
  .rw[C7 AU] at n
   exact h.ownS k z n b r
 .obtain⟨J,R,e⟩:=JA f E
  exact h.chan k m J R e
 .obtain⟨J,R,e⟩:=JA f d
  obtain⟨ae,ab,e'⟩:=JA f A;exact h.dist a b m _ _ _ _ e e'
theorem PhI.seen (h:PhI P Low n0 t₀ x ow comps gs w t)(o:x.L[j]?=some (c,vs,false)){q:Nat}(I:comps[n0+j]?=some (.inr q))(hr:g0.status=.running)(E:gs'.size=gs.size)(h0:gs'[0]?=some g0)
  (A:∀l,l≠0->gs'[l]?=gs[l]?) (fn:FuncId) (pos:String):
  PhI P Low n0 t₀ ⟨x.O,x.L.set j (c,[],true),g0,w⟩ ow comps gs' w (t++#[{g:=0,fn,pos,act:=.recvClosed c}]):=by
 have W:=h.pos;obtain⟨N,aa,ab⟩:=h.lt o;have hu:∀op∈(#[{g:=0,fn,pos,act:=.recvClosed c}]:Trace),op.g=0/\op.act.touch?=none/\op.act≠.mark .disable/\op.act≠.mark .enable:=by
  intro op d;have:op={g:=0,fn,pos,act:=.recvClosed c}:=by simpa using d
  subst this;exact⟨rfl,rfl,AW,AW⟩
 have K:Tr Low n0 (x.L.set j (c,[],true)).length t₀ (t++#[{g:=0,fn,pos,act:=.recvClosed c}]) ow:=by
  rw[Gk];exact h.tr.silent λop d=>⟨(hu op d).2.1,λ_=>(hu op d).2.2⟩
 obtain⟨R,H⟩:=h.part (S:=λ_=>False) (k:=0) (λb G=>G.elim);refine⟨h.pos,by rw[E];exact h.len,h.c0,by rw[E];simpa using h.siz,hr,Keep.refl _ _ _, .inl h0,λi hi T=>?_,λk m r seen s=>?_,h.own0,h.ownS,λk m r seen s=>?_,λa b m ae s2 Y ac f n=>?_,h.ows,h.low,K⟩
 .obtain⟨q,y,f,n,v⟩:=h.old i hi T
  exact⟨q,y,f,by rw[A i AU];exact n,Yu v (λop d=>by have:=(hu op d).1;omega)⟩
 .by_cases C:j=k
  .subst C
   have e:(x.L.set j (c,[],true))[j]?=some (c,[],true):=EY N;rw[show(x.L.set j (c,[],true))[j]?=some (m,r,seen) from s] at e;cases e;rcases h.snd j c _ _ o with⟨z,f,_⟩ | ⟨q,y,f,n,v,X,J,F,Z⟩
   .rw[I] at f;cases f
   .exact .inr ⟨q,y,f,by rw[A _ AU];exact n,v,rfl,J,F.app (λop d _=>(hu op d).2.1),λ_=>F.known h.tr.hears fn pos⟩
  .have U:x.L[k]?=some (m,r,seen):=by rw[<-s];exact(C7 C).symm
   exact(h.snd k m r seen U).turn rfl (A _ AU) (EM.same w) (λz M=>H (n0+k) z.O AU (h.ownS k z M)) R id (λop d _=>(hu op d).2.1)
 .obtain⟨B,D,e⟩:=JA o s
  exact h.chan k m B D e
 .obtain⟨B,D,e⟩:=JA o f
  obtain⟨ad,V,Q⟩:=JA o n;exact h.dist a b m _ _ _ _ e Q
theorem PhI.spawn (h:PhI P Low n0 t₀ x ow comps gs w t){g' child:Goroutine}(_h0:gs[0]?=some x.g)(G:x.O c)(hr:g'.status=.running)(W:X9 c w)(hX:D2 P Low ⟨c,λ_=>False,vs,child,w⟩)(fn r:FuncId)(pos z:String):
  PhI P Low n0 t₀ ⟨λb=>x.O b/\b≠c,x.L++[(c,vs,false)],g',w⟩ ow (comps++[.inl ⟨c,λ_=>False,vs,child,w⟩]) ((gs.setIfInBounds 0 g').push child) w (t++#[{g:=0,fn,pos,act:=.go gs.size},{g:=gs.size,fn:=r,pos:=z,act:=.start}]):=by
 have hn:=h.pos;have D:=h.siz;have M:=h.len;have hlt:0<gs.size:=AU
 have Z:Tr Low n0 (x.L++[(c,vs,false)]).length t₀ (t++#[{g:=0,fn,pos,act:=.go gs.size},{g:=gs.size,fn:=r,pos:=z,act:=.start}]) ow:=by
  rw[CO,D];exact h.tr.spawn fn r pos z
 have hu:∀op∈(#[{g:=0,fn,pos,act:=.go gs.size},{g:=gs.size,fn:=r,pos:=z,act:=.start}]:Trace),(op.g=0\/op.g=gs.size)/\op.act.touch?=none:=by
  intro op v;have:op={g:=0,fn,pos,act:=.go gs.size}\/op={g:=gs.size,fn:=r,pos:=z,act:=.start}:=by simpa using v
  rcases this with rfl | rfl
  .exact⟨.inl rfl,rfl⟩
  .exact⟨.inr rfl,rfl⟩
 have R:∀l,l≠0->l<gs.size->((gs.setIfInBounds 0 g').push child)[l]?=gs[l]?:=λl K hlt=>by
  rw[MY BU];rw[<-Hv];exact A7 K
 have A:∀l,l<comps.length->(comps++[.inl ⟨c,λ_=>False,vs,child,w⟩])[l]?=comps[l]?:=λl K=>JE K
 obtain⟨ac,V⟩:=h.part (S:=λ_=>False) (k:=0) (λb e=>e.elim);have s:∀k d f seen,(x.L++[(c,vs,false)])[k]?=some (d,f,seen)->(k<x.L.length/\x.L[k]?=some (d,f,seen))\/(k=x.L.length/\d=c/\f=vs/\seen=false):=by
  intro k d f seen n;rcases EV k x.L.length with hlt | F
  .rw[JE hlt] at n;exact .inl ⟨hlt,n⟩
  .rw[KA F] at n
   obtain⟨m,rfl⟩:∃m,k=x.L.length+m:=⟨k - x.L.length,AU⟩
   cases m with
   | zero=>simp at n;exact .inr ⟨rfl,n.1.symm,n.2.1.symm,n.2.2⟩
   | succ m=>simp at n
 refine⟨h.pos,by simp[M],by rw[A 0 AU];exact h.c0,by simp[D];omega,hr,Keep.refl _ _ _, .inl ?_,λi hi ad=>?_,λk d f seen J=>?_,λb e=>h.own0 b e.1,λk B o b e=>?_,λk d f seen J=>?_,λa b d aa Y N Q H C=>?_,h.ows,h.low,Z⟩
 .rw[MY BU];simp
 .obtain⟨q,y,H,C,U⟩:=h.old i hi ad
  exact⟨q,y,by rw[A i AU];exact H,by rw[R i AU AU];exact C,Yu U (λop v=>by rcases (hu op v).1 with ab | ab<;>omega)⟩
 .rcases s k d f seen J with⟨n,E⟩ | ⟨rfl,rfl,rfl,rfl⟩
  .exact(h.snd k d f seen E).turn (A _ AU) (R _ AU AU) (EM.same w) (λB o=>V (n0+k) B.O AU (h.ownS k B o)) ac id (λop v _=>(hu op v).2)
  .refine .inl ⟨_,?_,rfl,rfl,rfl,hX,Keep.refl _ _ _,W, .inl ?_⟩
   .rw[<-D,<-M];simp
   .rw[<-D]
    have:gs.size=(gs.setIfInBounds 0 g').size:=AW
    rw[this];exact MV
 .rcases EV (n0+k) comps.length with hlt | F
  .rw[A _ hlt] at o
   exact h.ownS k B o b e
  .rw[KA F] at o
   obtain⟨m,X⟩:∃m,n0+k - comps.length=m:=⟨_,rfl⟩
   rw[X] at o;cases m with
   | zero=>simp at o;subst o;exact e.elim
   | succ m=>simp at o
 .rcases s k d f seen J with⟨n,E⟩ | ⟨rfl,rfl,rfl,rfl⟩
  .exact⟨(h.chan k d f seen E).1,λe=>(h.chan k d f seen E).2 e.1⟩
  .exact⟨h.own0 _ G,λe=>e.2 rfl⟩
 .rcases s a d aa Y H with⟨ha,T⟩ | ⟨rfl,rfl,rfl,rfl⟩
  .rcases s b d N Q C with⟨e,I⟩ | ⟨rfl,rfl,rfl,rfl⟩
   .exact h.dist a b d _ _ _ _ T I
   .exact absurd G (h.chan a _ _ _ T).2
  .rcases s b d N Q C with⟨e,I⟩ | ⟨rfl,_,rfl,rfl⟩
   .exact absurd G (h.chan b _ _ _ I).2
   .rfl
end
