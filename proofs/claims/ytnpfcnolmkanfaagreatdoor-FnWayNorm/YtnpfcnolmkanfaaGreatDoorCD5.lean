import Derived.Test.YtnpfcnolmkanfaaGreatDoorCD2
namespace Go.Co
open Go.Conc
open Go.ConcN (sumTo upd sumTo_upd upd_ne upd_same)
variable {Low c:Nat}{w':World}{y:Goroutine}
structure Chg (S:Nat->Prop)(w w':World):Prop where
 rest:∀b,b<w.heap.size->¬S b->w'.heap[b]?=w.heap[b]?
 size:w.heap.size<=w'.heap.size
 tape:w'.tape=w.tape
 os:w'.os=w.os
 out:w'.output=w.output
theorem Ao1.chg {O:Nat->Prop}{w:World}{es:Array Event}(h:Ao1 Low O w w' es):Chg O w w':=⟨h.rest,h.size,h.tape,h.os,h.out⟩
theorem Chg.put (w:World)(c:Nat)(o:Obj):Chg (λb=>b=c) w {w with heap:=w.heap.setIfInBounds c o}:=
 ⟨λb _ a=>A7g (λe=>a e.symm),spz,rfl,rfl,rfl⟩
theorem Keep.chg {O S:Nat->Prop}{g w:World}(h:Keep Low O g w)(d:Chg S w w')(f:∀b,O b->b<w.heap.size/\¬S b)(e:∀b,b<Low->b<w.heap.size/\¬S b):Keep Low O g w':=
 ⟨λb a=>(d.rest b (e b a).1 (e b a).2).trans (h.still b a),λb a=>(d.rest b (f b a).1 (f b a).2).trans (h.mine b a),A6e h.size d.size,d.tape.trans h.tape,d.os.trans h.os,d.out.trans h.out⟩
theorem Yn.chg {S:Nat->Prop}{w:World}(h:Yn c w)(b:Chg S w w')(hS:¬S c):Yn c w':=by
 obtain⟨s,r,e⟩:=h;have a:=(Array.getElem?_eq_some_iff.1 e).1;exact⟨s,r,(b.rest c a hS).trans e⟩
theorem Ao0.chg {S:Nat->Prop}{w:World}(h:Ao0 c w)(b:Chg S w w')(hS:¬S c):Ao0 c w':=by
 obtain⟨s,r,e⟩:=h;have a:=(Array.getElem?_eq_some_iff.1 e).1;exact⟨s,r,(b.rest c a hS).trans e⟩
def Qt (w:World)(y:Goroutine):Prop:=
 (y.status=.running\/y.status=.finished)\/(∃g c z a,y=parked g #[rcase c z] a/\Yn c w)\/∃g c v z a,y=parked g #[scase c v z] a/\Yn c w
theorem Qt.woken {P:Program}{w:World}{a b:Goroutine}(h:Qt w y):woken P a b w y=y:=by
 rcases h with h | ⟨g,c,z,e,rfl,s,r,d⟩ | ⟨g,c,v,z,e,rfl,s,r,d⟩
 ·unfold Conc.woken
  split
  ·exact again_running _ h
  ·rfl
 ·exact woken_recv_open a b d
 ·exact woken_send_open a b d
theorem Qt.awake {w:World}(h:Qt w y):awake y:=by
 intro t a;rcases h with h | ⟨g,c,z,b,rfl,_⟩ | ⟨g,c,v,z,b,rfl,_⟩
 ·rcases h with h | h<;>rw[h] at a<;>cases a
 ·cases a
 ·cases a
theorem X9 {gs:Array Goroutine}{i:Nat}{f:Goroutine->Goroutine}{g':Goroutine}(h:∀l y,l≠i->gs[l]?=some y->f y=y):(gs.map f).setIfInBounds i g'=gs.setIfInBounds i g':=by
 apply Array.ext_getElem?;intro l;by_cases a:i=l
 ·subst a
  by_cases hlt:i<gs.size
  ·rw[A6u yBh,A6u hlt]
  ·rw[A8n yBh,A8n yBh]
 ·rw[A7g a,A7g a,A8o]
  cases b:gs[l]? with
  | none=>rfl
  | some y=>simp[h l y (λe=>a e.symm) b]
def cnt:List Goroutine->Nat
 | []=>0
 | g::l=>(if g.status=.blocked then 0 else 1)+cnt l
theorem Ax9:∀{l:List Goroutine} {i:Nat} {x y:Goroutine},l[i]?=some x->x.status≠.blocked->y.status=.blocked->cnt (l.set i y)<cnt l:=by
 intro l;induction l with
 | nil=>intro i x y h;simp at h
 | cons a l e=>
  intro i x y h b d;cases i with
  | zero=>
   simp at h;subst h;simp only[List.set_cons_zero,cnt,d,if_true,b,A7k];omega
  | succ i=>
   simp at h;have:=e h b d
   simp only[List.set_cons_succ,cnt];omega
section
variable (P : Program)(Low : Nat)(n0 : Nat)(t₀ : Trace)
def A1c (comps:List (SC ⊕ Nat))(gs:Array Goroutine)(w:World)(t:Trace)(j c:Nat)(b:List Value)(seen:Bool):Prop:=
 (∃s,comps[n0+j]?=some (.inl s)/\s.c=c/\b=s.vs/\seen=false/\Snd P Low s/\Keep Low s.O s.w w/\Yn c w/\
  (gs[n0+j]?=some s.g\/∃v z a,gs[n0+j]?=some (parked s.g #[scase c v z] .send)/\Keep Low s.O s.w a/\Yn c a/\stepG P false s.g a=.comm s.g #[scase c v z] true .send a #[]))\/
 (∃q y,comps[n0+j]?=some (.inr q)/\gs[n0+j]?=some y/\QuitsIn P q y/\b=[]/\Ao0 c w/\Vr t (n0+j) c/\(seen=true->Zw t (n0+j)))
structure PhI (x:RC)(ow:Nat->Nat->Prop)(comps:List (SC ⊕ Nat))(gs:Array Goroutine)(w:World)(t:Trace):Prop where
 pos:0<n0
 len:comps.length=gs.size
 c0:comps[0]?=some (.inr 0)
 siz:gs.size=n0+x.L.length
 run:x.g.status=.running
 keep:Keep Low x.O x.w w
 zero:gs[0]?=some x.g\/∃(j c:Nat) (vs:List Value) (z:Value) (w₀:World),x.L[j]?=some (c,vs,false)/\Keep Low x.O x.w w₀/\stepG P true x.g w₀=.comm x.g #[rcase c z] true (.recv true) w₀ #[]/\
  ((gs[0]?=some (parked x.g #[rcase c z] (.recv true))/\∃s,comps[n0+j]?=some (.inl s)/\gs[n0+j]?=some s.g)\/(gs[0]?=some {parked x.g #[rcase c z] (.recv true) with status:=.running}/\Ao0 c w))
 old:∀i,0<i->i<n0->∃q y,comps[i]?=some (.inr q)/\gs[i]?=some y/\QuitsD P q (Deaf t i) y
 snd:∀(j c:Nat) (rem:List Value) (seen:Bool),x.L[j]?=some (c,rem,seen)->A1c P Low n0 comps gs w t j c rem seen
 own0:∀b,x.O b->ow 0 b
 ownS:∀j s,comps[n0+j]?=some (.inl s)->∀b,s.O b->ow (n0+j) b
 chan:∀(j c:Nat) (rem:List Value) (seen:Bool),x.L[j]?=some (c,rem,seen)->ow 0 c/\¬x.O c
 dist:∀(j k c:Nat) (r:List Value) (s:Bool) (r':List Value) (s':Bool),x.L[j]?=some (c,r,s)->x.L[k]?=some (c,r',s')->j=k
 ows:Ow Low ow w.heap.size
 low:Low<=w.heap.size
 tr:Tr Low n0 x.L.length t₀ t ow
end
section
variable {P : Program}{Low : Nat}{n0 : Nat}{t₀ : Trace}{x : RC}{ow : Nat -> Nat -> Prop}{comps : List (SC ⊕ Nat)}{gs : Array Goroutine}{w : World}{t : Trace}
theorem PhI.qt (h:PhI P Low n0 t₀ x ow comps gs w t):∀(i:Nat) (y:Goroutine),gs[i]?=some y->Qt w y:=by
 intro i y a;have H:=(Array.getElem?_eq_some_iff.1 a).1;rcases A8e i with rfl | C
 ·rcases h.zero with b | ⟨j,c,vs,z,D,f,_,_,⟨b,s,B,_⟩ | ⟨b,_⟩⟩
  ·rw[b] at a;cases a;exact .inl (.inl h.run)
  ·rw[b] at a;cases a
   refine .inr (.inl ⟨_,c,z,_,rfl,?_⟩);rcases h.snd j c vs false f with⟨G,l,_,_,_,_,_,m,_⟩ | ⟨q,r,l,_⟩
   ·exact m
   ·rw[B] at l;cases l
  ·rw[b] at a;cases a;exact .inl (.inl rfl)
 ·rcases A70 i n0 with o | o
  ·obtain⟨q,r,_,d,n⟩:=h.old i C o
   rw[a] at d;cases d;exact .inl n.status
  ·obtain⟨j,rfl⟩:∃j,i=n0+j:=⟨i - n0,omz⟩
   have E:j<x.L.length:=by have:=h.siz;omega
   obtain⟨⟨c,F,seen⟩,f⟩:∃e,x.L[j]?=some e:=⟨_,A6j E⟩
   rcases h.snd j c F seen f with⟨s,_,_,_,_,A,_,m,g | ⟨v,z,D,g,_⟩⟩ | ⟨q,r,_,d,n,_⟩
   ·rw[g] at a;cases a;exact .inl (.inl A.inv.1)
   ·rw[g] at a;cases a;exact .inr (.inr ⟨_,c,v,z,_,rfl,m⟩)
   ·rw[d] at a;cases a;exact .inl n.status
theorem PhI.runs (h:PhI P Low n0 t₀ x ow comps gs w t):∃(i:Nat) (y:Goroutine),gs[i]?=some y/\y.status=.running:=by
 rcases h.zero with b | ⟨j,c,vs,z,l,f,_,_,⟨b,s,d,e⟩ | ⟨b,_⟩⟩
 ·exact⟨0,_,b,h.run⟩
 ·rcases h.snd j c vs false f with⟨m,a,_,_,_,g,_,_,_⟩ | ⟨q,n,a,_⟩
  ·rw[d] at a;cases a;exact⟨_,_,e,g.inv.1⟩
  ·rw[d] at a;cases a
 ·exact⟨0,_,b,rfl⟩
theorem PhI.at (h:PhI P Low n0 t₀ x ow comps gs w t)(d:Nat):PhI P Low n0 t₀ x ow comps gs (w.at d) t:=
 ⟨h.pos,h.len,h.c0,h.siz,h.run,h.keep.at d,h.zero,h.old,λj c n seen l=>(h.snd j c n seen l).imp (λ⟨s,a,b,c,m,e,f,g,i⟩=>⟨s,a,b,c,m,e,f.at d,g,i⟩) id,h.own0,h.ownS,h.chan,h.dist,h.ows,h.low,h.tr⟩
theorem PhI.acc (h:PhI P Low n0 t₀ x ow comps gs w t):Acc (RL (A5d P Low)) comps:=by
 refine RL.acc λy d=>?_
 obtain⟨i,hi⟩:=List.mem_iff_getElem?.1 d;have r:i<comps.length:=by
  exact(List.getElem?_eq_some_iff.1 hi).1
 rcases A8e i with rfl | l
 ·rw[h.c0] at hi
  cases hi;exact Vj P Low 0
 ·rcases A70 i n0 with b | b
  ·obtain⟨q,o,a,_⟩:=h.old i l b
   rw[a] at hi;cases hi;exact Vj P Low q
  ·obtain⟨j,rfl⟩:∃j,i=n0+j:=⟨i - n0,omz⟩
   have m:j<x.L.length:=by have:=h.siz;have:=h.len;omega
   obtain⟨⟨c,n,seen⟩,f⟩:∃e,x.L[j]?=some e:=⟨_,A6j m⟩
   rcases h.snd j c n seen f with⟨s,a,_,_,_,g,_⟩ | ⟨q,o,a,_⟩
   ·rw[a] at hi;cases hi;exact Aog g.acc
   ·rw[a] at hi;cases hi;exact Vj P Low q
end
section
variable {es:Array Event}{g':Goroutine}{i j k:Nat}
variable {P : Program}{Low : Nat}{n0 : Nat}{t₀ : Trace}{x : RC}{ow : Nat -> Nat -> Prop}{comps iP : List (SC ⊕ Nat)}{gs gs' : Array Goroutine}{w w' : World}{t u : Trace}
theorem A1c.turn {S:Nat->Prop}{c:Nat}{r:List Value}{seen:Bool}(h:A1c P Low n0 comps gs w t j c r seen)(o:iP[n0+j]?=comps[n0+j]?)(hg:gs'[n0+j]?=gs[n0+j]?)(hS:Chg S w w')
  (z:∀s,comps[n0+j]?=some (.inl s)->∀b,s.O b->b<w.heap.size/\¬S b) (v:∀b,b<Low->b<w.heap.size/\¬S b) (p:¬S c) (hu:∀op∈u,op.g=n0+j->op.act.touch?=none):A1c P Low n0 iP gs' w' (t++u) j c r seen:=by
 rcases h with⟨s,a,n,m,l,e,f,d,A⟩ | ⟨q,y,a,n,m,l,e,f,d⟩
 ·exact .inl ⟨s,by rw[o];exact a,n,m,l,e,f.chg hS (z s a) v,d.chg hS p,by rw[hg];exact A⟩
 ·exact .inr ⟨q,y,by rw[o];exact a,by rw[hg];exact n,m,l,e.chg hS p,f.app hu,λB=>(d B).app hu⟩
theorem PhI.part (h:PhI P Low n0 t₀ x ow comps gs w t){S:Nat->Prop}(hS:∀b,S b->ow k b):
  (∀b,b<Low->b<w.heap.size/\¬S b)/\(∀(l:Nat) (O:Nat->Prop),l≠k->(∀b,O b->ow l b)->∀b,O b->b<w.heap.size/\¬S b):=
 ⟨λb a=>⟨A51 a h.low,λd=>Nat.not_lt.2 (h.ows.low _ _ (hS b d)) a⟩,λ_l _O f e b a=>⟨h.ows.up _ _ (e b a),λd=>f (h.ows.apart _ _ _ (e b a) (hS b d))⟩⟩
def Api (ow:Nat->Nat->Prop)(k:Nat)(w w':World):Nat->Nat->Prop:=λl b=>ow l b\/(l=k/\w.heap.size<=b/\b<w'.heap.size)
theorem Ow.grow (h:Ow Low ow w.heap.size)(k:Nat)(f:w.heap.size<=w'.heap.size)(hl:Low<=w.heap.size):Ow Low (Api ow k w w') w'.heap.size:=by
 refine⟨λa b c d e=>?_,λa b d=>?_,λa b d=>?_⟩
 ·rcases d with d | ⟨rfl,d,_⟩<;>rcases e with e | ⟨rfl,e,_⟩
  ·exact h.apart _ _ _ d e
  ·exact absurd (h.up _ _ d) omz
  ·exact absurd (h.up _ _ e) omz
  ·rfl
 ·rcases d with d | ⟨rfl,d,_⟩
  ·exact h.low _ _ d
  ·omega
 ·rcases d with d | ⟨rfl,d,e⟩
  ·exact A51 (h.up _ _ d) f
  ·exact e
theorem A1r {m:Nat}{O:Nat->Prop}(h:Tr Low n0 m t₀ t ow)(q:Ow Low ow w.heap.size)(hl:Low<=w.heap.size)(o:k=0\/∃j,j<m/\k=n0+j)(hS:Ao1 Low O w w' es)(p:∀b,O b->ow k b)(fn:FuncId)(pos:String):
  Tr Low n0 m t₀ (t++MemOp.ofEvents k fn pos es) (Api ow k w w'):=by
 refine(h.wider λa b d=>.inl d).app (q.grow k hS.size hl) o (λop g=>by obtain⟨e,_,rfl⟩:=Go.Conc.mem_ofEvents g;rfl) (λop g a l _=>?_) λt=>?_
 ·obtain⟨e,f,rfl⟩:=Go.Conc.mem_ofEvents g
  rcases hS.ev e f with⟨ad,wr,rfl,d⟩ | rfl
  case inr=>simp[MemAct.ofEvent,MemAct.touch?] at l
  simp[MemAct.ofEvent,MemAct.touch?] at l;subst l;refine .inl ⟨ad,wr,rfl,d.imp (λd=>?_) id⟩;rcases d with d | ⟨n,r⟩
  ·exact .inl (p _ d)
  ·exact .inr ⟨rfl,n,r⟩
 ·rw[Deaf_own]
  exact deafBehind_still (λe f=>by rcases hS.ev e f with⟨ad,wr,rfl,_⟩ | rfl<;>simp) _
theorem Y9 {q:Nat}{y:Goroutine}(h:QuitsD P q (Deaf t i) y)(hu:∀op∈u,op.g≠i):QuitsD P q (Deaf (t++u) i) y:=by
 have:Deaf (t++u) i=Deaf t i:=by
  obtain⟨l⟩:=u;rw[Deaf_append];induction l generalizing t with
  | nil=>rfl
  | cons y l b=>
   have d:=hu y spz;have a:deafStep i (Deaf t i) y=Deaf t i:=by unfold deafStep;split<;>simp[d]
   rw[List.foldl_cons,a];exact b h λop hop=>hu op yEf
 rw[this];exact h
theorem Bg {l:Nat}{g:Goroutine}(h:l≠i):(gs.setIfInBounds i g)[l]?=gs[l]?:=A7g (λe=>h e.symm)
theorem Kr {fn:FuncId}{pos:String}(h:k≠i):∀op∈MemOp.ofEvents k fn pos es,op.g≠i:=λop a=>by obtain⟨e,_,rfl⟩:=Go.Conc.mem_ofEvents a;exact h
theorem PhI.own0' (h:PhI P Low n0 t₀ x ow comps gs w t)(v:gs[0]?=some x.g)(hr:g'.status=.running)(hS:Ao1 Low x.O w w' es)(fn:FuncId)(pos:String):
  PhI P Low n0 t₀ ⟨grown x.O w w',x.L,g',w'⟩ (Api ow 0 w w') comps (gs.setIfInBounds 0 g') w' (t++MemOp.ofEvents 0 fn pos es):=by
 have A:=(Array.getElem?_eq_some_iff.1 v).1;obtain⟨z,C⟩:=h.part (S:=x.O) (k:=0) h.own0;have E:=h.pos;refine⟨h.pos,by simpa using h.len,h.c0,by simpa using h.siz,hr,Keep.refl _ _ _, .inl (by simp[A]),λi hi r=>?_,λj c m seen f=>?_,λb d=>?_,λj s n b d=>.inl (h.ownS j s n b d),λj c m seen f=>?_,h.dist,h.ows.grow 0 hS.size h.low,A6e h.low hS.size,A1r h.tr h.ows h.low (.inl rfl) hS h.own0 fn pos⟩
 ·obtain⟨q,y,l,o,D⟩:=h.old i hi r
  exact⟨q,y,l,by rw[Bg omz];exact o,Y9 D (Kr omz)⟩
 ·exact(h.snd j c m seen f).turn rfl (Bg omz) hS.chg (λs n=>C (n0+j) s.O omz (h.ownS j s n)) z (h.chan j c m seen f).2 (λop B e=>absurd e (Kr omz op B))
 ·exact d.imp (h.own0 b) λ⟨a,b⟩=>⟨rfl,a,b⟩
 ·obtain⟨l,o⟩:=h.chan j c m seen f
  refine⟨.inl l,λd=>?_⟩;rcases d with d | ⟨d,_⟩
  ·exact o d
  ·exact absurd (h.ows.up _ _ l) omz
theorem PhI.ownJ (h:PhI P Low n0 t₀ x ow comps gs w t){s:SC}(X:j<x.L.length)(A:comps[n0+j]?=some (.inl s))(hg:gs[n0+j]?=some s.g)(_hr:g'.status=.running)(hS:Ao1 Low s.O w w' es)
  (V:Snd P Low ⟨s.c,grown s.O w w',s.vs,g',w'⟩) (fn:FuncId) (pos:String):
  PhI P Low n0 t₀ x (Api ow (n0+j) w w') (comps.set (n0+j) (.inl ⟨s.c,grown s.O w w',s.vs,g',w'⟩)) (gs.setIfInBounds (n0+j) g') w' (t++MemOp.ofEvents (n0+j) fn pos es):=by
 have C:=(Array.getElem?_eq_some_iff.1 hg).1;have D:n0+j<comps.length:=by rw[h.len];exact C
 obtain⟨J,M⟩:=h.part (S:=s.O) (k:=n0+j) (h.ownS j s A);have hn:=h.pos;have E:∀l c m seen,x.L[l]?=some (c,m,seen)->¬s.O c:=λl c m seen Q v=>by
  have:=h.ows.apart _ _ _ (h.chan l c m seen Q).1 (h.ownS j s A c v)
  omega
 refine⟨h.pos,by simpa using h.len,by rw[A6c omz];exact h.c0,by simpa using h.siz,h.run,h.keep.chg hS.chg (M 0 x.O omz h.own0) J,?_,λi hi N=>?_,λl c m seen n=>?_,λb v=>.inl (h.own0 b v),λl o B b v=>?_,λl c m seen n=>⟨.inl (h.chan l c m seen n).1,(h.chan l c m seen n).2⟩,h.dist,h.ows.grow _ hS.size h.low,A6e h.low hS.size,A1r h.tr h.ows h.low (.inr ⟨j,X,rfl⟩) hS (h.ownS j s A) fn pos⟩
 ·rcases h.zero with h0 | ⟨k,c,vs,z,K,a,b,I,⟨d,o,e,f⟩ | ⟨d,e⟩⟩
  ·exact .inl yEi
  ·refine .inr ⟨k,c,vs,z,K,a,b,I, .inl ⟨by rw[Bg omz];exact d,?_⟩⟩
   by_cases R:k=j
   ·subst R
    exact⟨_,A6r D,A6u C⟩
   ·exact⟨o,by rw[A6c omz];exact e,by rw[Bg omz];exact f⟩
  ·exact .inr ⟨k,c,vs,z,K,a,b,I, .inr ⟨by rw[Bg omz];exact d,e.chg hS.chg (E k c vs false a)⟩⟩
 ·obtain⟨q,y,r,H,F⟩:=h.old i hi N
  exact⟨q,y,by rw[A6c omz];exact r,by rw[Bg omz];exact H,Y9 F (Kr omz)⟩
 ·by_cases G:l=j
  ·subst G
   rcases h.snd l c m seen n with⟨o,r,H,F,W,Z,h6,T,Y⟩ | ⟨q,y,r,_⟩
   ·rw[A] at r;cases r
    exact .inl ⟨_,A6r D,H,F,W,V,Keep.refl _ _ _,T.chg hS.chg (E l c m seen n), .inl (A6u C)⟩
   ·rw[A] at r;cases r
  ·exact(h.snd l c m seen n).turn (A6c omz) (Bg omz) hS.chg (λo B=>M (n0+l) o.O omz (h.ownS l o B)) J (E l c m seen n) (λop U e=>absurd e (Kr omz op U))
 ·by_cases G:l=j
  ·subst G
   rw[A6r D] at B;cases B;exact v.imp (h.ownS l s A b) λ⟨a,b⟩=>⟨rfl,a,b⟩
  ·rw[A6c omz] at B
   exact .inl (h.ownS l o B b v)
end
section
variable {c j:Nat}{g0:Goroutine}{vs vs':List Value}
variable {P : Program}{Low : Nat}{n0 : Nat}{t₀ : Trace}{x : RC}{ow : Nat -> Nat -> Prop}{comps iP : List (SC ⊕ Nat)}{gs gs' : Array Goroutine}{w w' : World}{t u : Trace}
theorem Chg.same (w:World):Chg (λ_=>False) w w:=⟨λ_ _ _=>rfl,A57 _,rfl,rfl,rfl⟩
theorem A4e {L:List (Nat × List Value × Bool)}{b f:Bool}(e:L[j]?=some (c,vs,b)){k d:Nat}{r:List Value}{s:Bool}(h:(L.set j (c,vs',f))[k]?=some (d,r,s)):∃l g,L[k]?=some (d,l,g):=by
 by_cases a:j=k
 ·subst a
  rw[A6r (List.getElem?_eq_some_iff.1 e).1] at h;cases h;exact⟨_,_,e⟩
 ·rw[A6c a] at h;exact⟨_,_,h⟩
theorem PhI.lt (h:PhI P Low n0 t₀ x ow comps gs w t){e:Nat × List Value × Bool}(a:x.L[j]?=some e):j<x.L.length/\n0+j<gs.size/\n0+j<comps.length:=by
 have b:=(List.getElem?_eq_some_iff.1 a).1;have:=h.siz
 have:=h.len
 omega
theorem PhI.meet (h:PhI P Low n0 t₀ x ow comps gs w t){v:Value}{s:SC}{G F:Nat}(f:x.L[j]?=some (c,v::vs',false))(C:comps[n0+j]?=some (.inl s))
  (hX:Snd P Low ⟨s.c,s.O,vs',Conc.served s.g undef,w⟩) (hr:g0.status=.running) (J:gs'.size=gs.size) (X:gs'[0]?=some g0) (hJ:gs'[n0+j]?=some (Conc.served s.g undef)) (M:∀l,l≠0->l≠n0+j->gs'[l]?=gs[l]?)
  (hu:∀op∈u,op.act.touch?=none/\(op.act≠.mark .disable/\op.act≠.mark .enable)/\(op.g=0\/op.g=n0+j)):
  PhI P Low n0 t₀ ⟨x.O,x.L.set j (c,vs',false),g0,w⟩ ow (comps.set (n0+j) (.inl ⟨s.c,s.O,vs',Conc.served s.g undef,w⟩)) gs' (w.setChan c 0 #[] false G F false) (t++u):=by
 have hn:=h.pos;obtain⟨hj,ag,K⟩:=h.lt f;have H:Chg (λb=>b=c) w (w.setChan c 0 #[] false G F false):=Chg.put w c _;obtain⟨I,R⟩:=h.part (S:=λb=>b=c) (k:=0) (by rintro b rfl;exact(h.chan j _ _ _ f).1);have Z:∀b,x.O b->b<w.heap.size/\¬b=c:=λb z=>⟨h.ows.up _ _ (h.own0 b z),λe=>(h.chan j _ _ _ f).2 (e ▸ z)⟩
 have Q:(w.setChan c 0 #[] false G F false).heap.size=w.heap.size:=by simp[World.setChan]
 have aa:Tr Low n0 (x.L.set j (c,vs',false)).length t₀ (t++u) ow:=by
  rw[A8i];exact h.tr.silent λop n=>⟨(hu op n).1,λ_=>(hu op n).2.1⟩
 refine⟨h.pos,by rw[J];simpa using h.len,by rw[A6c omz];exact h.c0,by rw[J];simpa using h.siz,hr,(Keep.refl _ _ _).chg H Z I, .inl X,λi hi W=>?_,λk m E seen D=>?_,h.own0,λk r o b z=>?_,λk m E seen D=>?_,λa b m ab s2 r' ac d B=>?_,by rw[Q];exact h.ows,by rw[Q];exact h.low,aa⟩
 ·obtain⟨q,y,d,B,U⟩:=h.old i hi W
  exact⟨q,y,by rw[A6c omz];exact d,by rw[M i omz omz];exact B,Y9 U (λop n=>by rcases (hu op n).2.2 with e | e<;>omega)⟩
 ·by_cases A:j=k
  ·subst A
   have e:(x.L.set j (c,vs',false))[j]?=some (c,vs',false):=A6r hj;rw[show(x.L.set j (c,vs',false))[j]?=some (m,E,seen) from D] at e;cases e;rcases h.snd j c _ _ f with⟨r,d,B,U,h4,h5,h6,⟨a,b,h7⟩,h8⟩ | ⟨q,y,d,_⟩
   ·rw[C] at d;cases d
    refine .inl ⟨_,A6r K,B,rfl,rfl,hX,(Keep.refl _ _ _).chg H (R (n0+j) s.O omz (h.ownS j s C)) I,⟨_,_,heap_put h7⟩, .inl hJ⟩
   ·rw[C] at d;cases d
  ·have N:x.L[k]?=some (m,E,seen):=by rw[<-D];exact(A6c A).symm
   exact(h.snd k m E seen N).turn (A6c omz) (M _ omz omz) H (λr o=>R (n0+k) r.O omz (h.ownS k r o)) I (λe=>A (h.dist j k c _ _ _ _ f (e ▸ N))) (λop n _=>(hu op n).1)
 ·by_cases A:k=j
  ·subst A
   rw[A6r K] at o;cases o;exact h.ownS k s C b z
  ·rw[A6c omz] at o
   exact h.ownS k r o b z
 ·obtain⟨V,T,e⟩:=A4e f D
  exact h.chan k m V T e
 ·obtain⟨V,T,e⟩:=A4e f d
  obtain⟨ae,af,Y⟩:=A4e f B;exact h.dist a b m _ _ _ _ e Y
theorem PhI.seen (h:PhI P Low n0 t₀ x ow comps gs w t)(n:x.L[j]?=some (c,vs,false)){q:Nat}(J:comps[n0+j]?=some (.inr q))(hr:g0.status=.running)(C:gs'.size=gs.size)(I:gs'[0]?=some g0)
  (z:∀l,l≠0->gs'[l]?=gs[l]?) (fn:FuncId) (pos:String):
  PhI P Low n0 t₀ ⟨x.O,x.L.set j (c,[],true),g0,w⟩ ow comps gs' w (t++#[{g:=0,fn,pos,act:=.recvClosed c}]):=by
 have hn:=h.pos;obtain⟨U,ac,Y⟩:=h.lt n;have hu:∀op∈(#[{g:=0,fn,pos,act:=.recvClosed c}]:Trace),op.g=0/\op.act.touch?=none/\op.act≠.mark .disable/\op.act≠.mark .enable:=by
  intro op d;have:op={g:=0,fn,pos,act:=.recvClosed c}:=by simpa using d
  subst this;exact⟨rfl,rfl,spz,spz⟩
 have W:Tr Low n0 (x.L.set j (c,[],true)).length t₀ (t++#[{g:=0,fn,pos,act:=.recvClosed c}]) ow:=by
  rw[A8i];exact h.tr.silent λop d=>⟨(hu op d).2.1,λ_=>(hu op d).2.2⟩
 obtain⟨V,T⟩:=h.part (S:=λ_=>False) (k:=0) (λb K=>K.elim);refine⟨h.pos,by rw[C];exact h.len,h.c0,by rw[C];simpa using h.siz,hr,Keep.refl _ _ _, .inl I,λi hi H=>?_,λk m v seen s=>?_,h.own0,h.ownS,λk m v seen s=>?_,λa b m r X r' Z f o=>?_,h.ows,h.low,W⟩
 ·obtain⟨q,y,f,o,B⟩:=h.old i hi H
  exact⟨q,y,f,by rw[z i omz];exact o,Y9 B (λop d=>by have:=(hu op d).1;omega)⟩
 ·by_cases D:j=k
  ·subst D
   have e:(x.L.set j (c,[],true))[j]?=some (c,[],true):=A6r U;rw[show(x.L.set j (c,[],true))[j]?=some (m,v,seen) from s] at e;cases e;rcases h.snd j c _ _ n with⟨A,f,_⟩ | ⟨q,y,f,o,B,h4,Q,E,h7⟩
   ·rw[J] at f;cases f
   ·exact .inr ⟨q,y,f,by rw[z _ omz];exact o,B,rfl,Q,E.app (λop d _=>(hu op d).2.1),λ_=>E.known h.tr.hears fn pos⟩
  ·have M:x.L[k]?=some (m,v,seen):=by rw[<-s];exact(A6c D).symm
   exact(h.snd k m v seen M).turn rfl (z _ omz) (Chg.same w) (λA R=>T (n0+k) A.O omz (h.ownS k A R)) V id (λop d _=>(hu op d).2.1)
 ·obtain⟨G,F,e⟩:=A4e n s
  exact h.chan k m G F e
 ·obtain⟨G,F,e⟩:=A4e n f
  obtain⟨aa,ab,N⟩:=A4e n o;exact h.dist a b m _ _ _ _ e N
theorem PhI.spawn (h:PhI P Low n0 t₀ x ow comps gs w t){g' child:Goroutine}(_h0:gs[0]?=some x.g)(M:x.O c)(hr:g'.status=.running)(ho:Yn c w)(Z:Snd P Low ⟨c,λ_=>False,vs,child,w⟩)(fn A:FuncId)(pos v:String):
  PhI P Low n0 t₀ ⟨λb=>x.O b/\b≠c,x.L++[(c,vs,false)],g',w⟩ ow (comps++[.inl ⟨c,λ_=>False,vs,child,w⟩]) ((gs.setIfInBounds 0 g').push child) w (t++#[{g:=0,fn,pos,act:=.go gs.size},{g:=gs.size,fn:=A,pos:=v,act:=.start}]):=by
 have hn:=h.pos;have F:=h.siz;have V:=h.len;have hlt:0<gs.size:=omz
 have ab:Tr Low n0 (x.L++[(c,vs,false)]).length t₀ (t++#[{g:=0,fn,pos,act:=.go gs.size},{g:=gs.size,fn:=A,pos:=v,act:=.start}]) ow:=by
  rw[A52,F];exact h.tr.spawn fn A pos v
 have hu:∀op∈(#[{g:=0,fn,pos,act:=.go gs.size},{g:=gs.size,fn:=A,pos:=v,act:=.start}]:Trace),(op.g=0\/op.g=gs.size)/\op.act.touch?=none:=by
  intro op z;have:op={g:=0,fn,pos,act:=.go gs.size}\/op={g:=gs.size,fn:=A,pos:=v,act:=.start}:=by simpa using z
  rcases this with rfl | rfl
  ·exact⟨.inl rfl,rfl⟩
  ·exact⟨.inr rfl,rfl⟩
 have U:∀l,l≠0->l<gs.size->((gs.setIfInBounds 0 g').push child)[l]?=gs[l]?:=λl N hlt=>by
  rw[A81 yBh];rw[<-A7v];exact Bg N
 have E:∀l,l<comps.length->(comps++[.inl ⟨c,λ_=>False,vs,child,w⟩])[l]?=comps[l]?:=λl N=>A9c N
 obtain⟨aa,hO⟩:=h.part (S:=λ_=>False) (k:=0) (λb f=>f.elim);have B:∀k d n seen,(x.L++[(c,vs,false)])[k]?=some (d,n,seen)->(k<x.L.length/\x.L[k]?=some (d,n,seen))\/(k=x.L.length/\d=c/\n=vs/\seen=false):=by
  intro k d n seen o;rcases A70 k x.L.length with hlt | I
  ·rw[A9c hlt] at o;exact .inl ⟨hlt,o⟩
  ·rw[A86 I] at o
   obtain⟨m,rfl⟩:∃m,k=x.L.length+m:=⟨k - x.L.length,omz⟩
   cases m with
   | zero=>simp at o;exact .inr ⟨rfl,o.1.symm,o.2.1.symm,o.2.2⟩
   | succ m=>simp at o
 refine⟨h.pos,by simp[V],by rw[E 0 omz];exact h.c0,by simp[F];omega,hr,Keep.refl _ _ _, .inl ?_,λi hi X=>?_,λk d n seen K=>?_,λb f=>h.own0 b f.1,λk C s b f=>?_,λk d n seen K=>?_,λa b d r W R Q J G=>?_,h.ows,h.low,ab⟩
 ·rw[A81 yBh];simp
 ·obtain⟨q,y,J,G,h3⟩:=h.old i hi X
  exact⟨q,y,by rw[E i omz];exact J,by rw[U i omz omz];exact G,Y9 h3 (λop z=>by rcases (hu op z).1 with e | e<;>omega)⟩
 ·rcases B k d n seen K with⟨o,D⟩ | ⟨rfl,rfl,rfl,rfl⟩
  ·exact(h.snd k d n seen D).turn (E _ omz) (U _ omz omz) (Chg.same w) (λC s=>hO (n0+k) C.O omz (h.ownS k C s)) aa id (λop z _=>(hu op z).2)
  ·refine .inl ⟨_,?_,rfl,rfl,rfl,Z,Keep.refl _ _ _,ho, .inl ?_⟩
   ·rw[<-F,<-V];simp
   ·rw[<-F]
    have:gs.size=(gs.setIfInBounds 0 g').size:=spz
    rw[this];exact A8v
 ·rcases A70 (n0+k) comps.length with hlt | I
  ·rw[E _ hlt] at s
   exact h.ownS k C s b f
  ·rw[A86 I] at s
   obtain⟨m,Y⟩:∃m,n0+k - comps.length=m:=⟨_,rfl⟩
   rw[Y] at s;cases m with
   | zero=>simp at s;subst s;exact f.elim
   | succ m=>simp at s
 ·rcases B k d n seen K with⟨o,D⟩ | ⟨rfl,rfl,rfl,rfl⟩
  ·exact⟨(h.chan k d n seen D).1,λf=>(h.chan k d n seen D).2 f.1⟩
  ·exact⟨h.own0 _ M,λf=>f.2 rfl⟩
 ·rcases B a d r W J with⟨ha,T⟩ | ⟨rfl,rfl,rfl,rfl⟩
  ·rcases B b d R Q G with⟨f,H⟩ | ⟨rfl,rfl,rfl,rfl⟩
   ·exact h.dist a b d _ _ _ _ T H
   ·exact absurd M (h.chan a _ _ _ T).2
  ·rcases B b d R Q G with⟨f,H⟩ | ⟨rfl,_,rfl,rfl⟩
   ·exact absurd M (h.chan b _ _ _ H).2
   ·rfl
end
end Go.Co
