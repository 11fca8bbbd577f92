import Derived.Test.YthdogflpbpkbeaaGreatDoorCD2
set_option linter.defProp false
namespace Go.Co
open Go.Conc
open Go.ConcN (sumTo upd sumTo_upd upd_ne upd_same)
variable {Low c:Nat}{w':AU}{y:AX}
structure FX(S:Nat->Prop)(w w':AU):Prop where
 rest:∀b,b<w.heap.size->¬S b->w'.heap[b]?=w.heap[b]?
 size:w.heap.size<=w'.heap.size
 tape:w'.tape=w.tape
 os:w'.os=w.os
 out:w'.output=w.output
def GI.chg{O:Φ}{w:AU}{es:Array Event}(h:GI Low O w w' es):FX O w w':=⟨h.rest,h.size,h.tape,h.os,h.out⟩
def FX.put(w:AU)(c:Nat)(o:Obj):FX (λb=>b=c) w {w with heap:=w.heap.setIfInBounds c o}:=
 ⟨λb _ a=>JM (λe=>a e.symm),BU,rfl,rfl,rfl⟩
def Keep.chg{O S:Φ}{g w:AU}(h:Keep Low O g w)(d:FX S w w')(f:∀b,O b->b<w.heap.size/\¬S b)(e:∀b,b<Low->b<w.heap.size/\¬S b):Keep Low O g w':=
 ⟨λb a=>(d.rest b (e b a).1 (e b a).2).tr (h.still b a),λb a=>(d.rest b (f b a).1 (f b a).2).tr (h.mine b a),DU h.size d.size,d.tape.tr h.tape,d.os.tr h.os,d.out.tr h.out⟩
def Zj.chg{S:Φ}{w:AU}(h:Zj c w)(a:FX S w w')(hS:¬S c):Zj c w':=by obtain⟨s,r,e⟩:=h;have b:=(BF.1 e).1;exact⟨s,r,(a.rest c b hS).tr e⟩
def K1.chg{S:Φ}{w:AU}(h:K1 c w)(a:FX S w w')(hS:¬S c):K1 c w':=by obtain⟨s,r,e⟩:=h;have b:=(BF.1 e).1;exact⟨s,r,(a.rest c b hS).tr e⟩
def Qt(w:AU)(y:AX):Prop:=
 (y.status=.running\/y.status=.finished)\/(∃g c z a,y=parked g #[rcase c z] a/\Zj c w)\/∃g c v z a,y=parked g #[scase c v z] a/\Zj c w
theorem Qt.woken{P:AY}{w:AU}{a d:AX}(h:Qt w y):woken P a d w y=y:=by
 rcases h with h|⟨g,c,z,e,rfl,s,r,b⟩|⟨g,c,v,z,e,rfl,s,r,b⟩
 .unfold Conc.woken;split;{exact again_running _ h};rfl
 .exact woken_recv_open a d b
 exact woken_send_open a d b
theorem Qt.awake{w:AU}(h:Qt w y):awake y:=by
 intro t a;rcases h with h|⟨g,c,z,b,rfl,_⟩|⟨g,c,v,z,b,rfl,_⟩
 .rcases h with h|h<;>rw[h]at a<;>cases a
 .cases a
 cases a
theorem Y8{gs:Array AX}{i:Nat}{f:AX->Goroutine}{g':AX}(h:∀l y,l≠i->gs[l]?=some y->f y=y):(gs.map f).setIfInBounds i g'=gs.setIfInBounds i g':=by
 apply Array.ext_getElem?;intro l;by_cases a:i=l
 .subst a;by_cases hlt:i<gs.size;{rw[Hi C0,Hi hlt]};rw[PG C0,PG C0]
 rw[JM a,JM a,MY];cases b:gs[l]? with|none=>rfl|some y=>simp[h l y (λe=>a e.symm) b]
def cnt:List AX->Nat
 |[]=>0
 |g::l=>(if g.status=.blocked then 0 else 1)+cnt l
theorem UH:∀{l:List AX}{i:Nat}{x y:AX},l[i]?=some x->x.status≠.blocked->y.status=.blocked->cnt (l.set i y)<cnt l:=by
 intro l;induction l with
 |nil=>intro i x y h;simp at h
 |cons a l e=>
  intro i x y h b d;cases i with
  |zero=>simp at h;subst h;simp only[List.set_cons_zero,cnt,d,if_true,b,EL];omega|succ i=>simp at h;have:=e h b d;simp only[List.set_cons_succ,cnt];omega
section
variable (P : AY)(Low : Nat)(n0 : Nat)(t₀ : Trace)
def NE(comps:List (SC ⊕ Nat))(gs:Array AX)(w:AU)(t:Trace)(j c:Nat)(b:Θ)(seen:Bool):Prop:=
 (∃s,comps[n0+j]?=some (.inl s)/\s.c=c/\b=s.vs/\seen=false/\FD P Low s/\Keep Low s.O s.w w/\Zj c w/\
  (gs[n0+j]?=some s.g\/∃v z a,gs[n0+j]?=some (parked s.g #[scase c v z] .send)/\Keep Low s.O s.w a/\Zj c a/\stepG P false s.g a=.comm s.g #[scase c v z] true .send a #[]))\/
 (∃q y,comps[n0+j]?=some (.inr q)/\gs[n0+j]?=some y/\QuitsIn P q y/\b=[]/\K1 c w/\Xp t (n0+j) c/\(seen=true->KI t (n0+j)))
structure PhI(x:RC)(ow:Nat->Nat->Prop)(comps:List (SC ⊕ Nat))(gs:Array AX)(w:AU)(t:Trace):Prop where
 pos:0<n0
 len:comps.length=gs.size
 c0:comps[0]?=some (.inr 0)
 siz:gs.size=n0+x.L.length
 run:x.g.status=.running
 keep:Keep Low x.O x.w w
 zero:gs[0]?=some x.g\/∃(j c:Nat)(vs:List AW)(z:AW)(w₀:AU),x.L[j]?=some (c,vs,false)/\Keep Low x.O x.w w₀/\stepG P true x.g w₀=.comm x.g #[rcase c z] true (.recv true) w₀ #[]/\
  ((gs[0]?=some (parked x.g #[rcase c z] (.recv true))/\∃s,comps[n0+j]?=some (.inl s)/\gs[n0+j]?=some s.g)\/(gs[0]?=some {parked x.g #[rcase c z] (.recv true) with status:=.running}/\K1 c w))
 old:∀i,0<i->i<n0->∃q y,comps[i]?=some (.inr q)/\gs[i]?=some y/\QuitsD P q (Deaf t i) y
 snd:∀(j c:Nat)(rem:List AW)(seen:Bool),x.L[j]?=some (c,rem,seen)->NE P Low n0 comps gs w t j c rem seen
 own0:∀b,x.O b->ow 0 b
 ownS:∀j s,comps[n0+j]?=some (.inl s)->∀b,s.O b->ow (n0+j) b
 chan:∀(j c:Nat)(rem:List AW)(seen:Bool),x.L[j]?=some (c,rem,seen)->ow 0 c/\¬x.O c
 dist:∀(j k c:Nat)(r:List AW)(s:Bool)(r':List AW)(s':Bool),x.L[j]?=some (c,r,s)->x.L[k]?=some (c,r',s')->j=k
 ows:Ow Low ow w.heap.size
 low:Low<=w.heap.size
 tr:Tr Low n0 x.L.length t₀ t ow
end
section
variable {P : AY}{Low : Nat}{n0 : Nat}{t₀ : Trace}{x : RC}{ow : Nat -> Nat -> Prop}{comps : List (SC ⊕ Nat)}{gs : Array AX}{w : AU}{t : Trace}
theorem PhI.qt(h:PhI P Low n0 t₀ x ow comps gs w t):∀(i:Nat)(y:AX),gs[i]?=some y->Qt w y:=by
 intro i y a;have G:=(BF.1 a).1;rcases LP i with rfl|C
 .rcases h.zero with b|⟨j,c,vs,z,B,f,_,_,⟨b,s,E,_⟩|⟨b,_⟩⟩;{rw[b]at a;cases a;exact .inl (.inl h.run)};{rw[b]at a;cases a;refine .inr (.inl ⟨_,c,z,_,rfl,?_⟩);rcases h.snd j c vs false f with⟨H,o,_,_,_,_,_,m,_⟩|⟨q,y',o,_⟩;{exact m};rw[E]at o;cases o};rw[b]at a;cases a;exact .inl (.inl rfl)
 rcases GM i n0 with r|r
 .have⟨q,y',_,d,n⟩:=h.old i C r;rw[a]at d;cases d;exact .inl n.status
 obtain⟨j,rfl⟩:∃j,i=n0+j:=⟨i - n0,BS⟩;have F:j<x.L.length:=xCb;obtain⟨⟨c,D,seen⟩,f⟩:∃e,x.L[j]?=some e:=⟨_,FA F⟩;rcases h.snd j c D seen f with⟨s,_,_,_,_,A,_,m,g|⟨v,z,B,g,_⟩⟩|⟨q,y',_,d,n,_⟩
 .rw[g]at a;cases a;exact .inl (.inl A.inv.1)
 .rw[g]at a;cases a;exact .inr (.inr ⟨_,c,v,z,_,rfl,m⟩)
 rw[d]at a;cases a;exact .inl n.status
theorem PhI.runs(h:PhI P Low n0 t₀ x ow comps gs w t):∃(i:Nat)(y:AX),gs[i]?=some y/\y.status=.running:=by
 rcases h.zero with b|⟨j,c,vs,z,m,e,_,_,⟨b,s,d,f⟩|⟨b,_⟩⟩
 .exact⟨0,_,b,h.run⟩
 .rcases h.snd j c vs false e with⟨n,a,_,_,_,g,_,_,_⟩|⟨q,y',a,_⟩;{rw[d]at a;cases a;exact⟨_,_,f,g.inv.1⟩};rw[d]at a;cases a
 exact⟨0,_,b,rfl⟩
theorem PhI.at(h:PhI P Low n0 t₀ x ow comps gs w t)(d:Nat):PhI P Low n0 t₀ x ow comps gs (w.at d) t:=
 ⟨h.pos,h.len,h.c0,h.siz,h.run,h.keep.at d,h.zero,h.old,λj c o seen m=>(h.snd j c o seen m).imp (λ⟨s,a,b,c,n,e,f,g,i⟩=>⟨s,a,b,c,n,e,f.at d,g,i⟩) id,h.own0,h.ownS,h.chan,h.dist,h.ows,h.low,h.tr⟩
theorem PhI.acc(h:PhI P Low n0 t₀ x ow comps gs w t):Acc (RL (PC P Low)) comps:=by
 refine RL.acc λy m=>?_;have⟨i,hi⟩:=List.mem_iff_getElem?.1 m;have r:i<comps.length:=by exact(BO.1 hi).1
 rcases LP i with rfl|g
 .rw[h.c0]at hi;cases hi;exact Xk P Low 0
 rcases GM i n0 with b|b
 .have⟨q,y',a,_⟩:=h.old i g b;rw[a]at hi;cases hi;exact Xk P Low q
 obtain⟨j,rfl⟩:∃j,i=n0+j:=⟨i - n0,BS⟩;have o:j<x.L.length:=by have:=h.siz;have:=h.len;omega
 obtain⟨⟨c,n,seen⟩,d⟩:∃e,x.L[j]?=some e:=⟨_,FA o⟩;rcases h.snd j c n seen d with⟨s,a,_,_,_,f,_⟩|⟨q,y',a,_⟩
 .rw[a]at hi;cases hi;exact yF f.acc
 rw[a]at hi;cases hi;exact Xk P Low q
end
section
variable {es:Array Event}{g':AX}{i j k:Nat}
variable {P : AY}{Low : Nat}{n0 : Nat}{t₀ : Trace}{x : RC}{ow : Nat -> Nat -> Prop}{comps iQ : List (SC ⊕ Nat)}{gs gs' : Array AX}{w w' : AU}{t u : Trace}
theorem NE.turn{S:Φ}{c:Nat}{p:Θ}{seen:Bool}(h:NE P Low n0 comps gs w t j c p seen)(v:iQ[n0+j]?=comps[n0+j]?)(hg:gs'[n0+j]?=gs[n0+j]?)(hS:FX S w w')
  (D:∀s,comps[n0+j]?=some (.inl s)->∀b,s.O b->b<w.heap.size/\¬S b) (A:∀b,b<Low->b<w.heap.size/\¬S b) (r:¬S c) (hu:∀op∈u,op.g=n0+j->op.act.touch?=none):NE P Low n0 iQ gs' w' (t++u) j c p seen:=by
 rcases h with⟨s,a,e,n,d,f,o,m,C⟩|⟨q,y,a,e,n,d,f,o,m⟩
 .exact .inl ⟨s,by rwa[v],e,n,d,f,o.chg hS (D s a) A,m.chg hS r,by rwa[hg]⟩
 exact .inr ⟨q,y,by rwa[v],by rwa[hg],n,d,f.chg hS r,o.app hu,λB=>(m B).app hu⟩
def PhI.part(h:PhI P Low n0 t₀ x ow comps gs w t){S:Φ}(hS:∀b,S b->ow k b):
  (∀b,b<Low->b<w.heap.size/\¬S b)/\(∀(l:Nat)(O:Φ),l≠k->(∀b,O b->ow l b)->∀b,O b->b<w.heap.size/\¬S b):=
 ⟨λb a=>⟨DO a h.low,λd=>Nat.not_lt.2 (h.ows.low _ _ (hS b d)) a⟩,λ_l _O f e b a=>⟨h.ows.up _ _ (e b a),λd=>f (h.ows.apart _ _ _ (e b a) (hS b d))⟩⟩
def OS(ow:Nat->Nat->Prop)(k:Nat)(w w':AU):Nat->Nat->Prop:=λl b=>ow l b\/(l=k/\w.heap.size<=b/\b<w'.heap.size)
theorem Ow.grow(h:Ow Low ow w.heap.size)(k:Nat)(f:w.heap.size<=w'.heap.size)(hl:Low<=w.heap.size):Ow Low (OS ow k w w') w'.heap.size:=by
 refine⟨λa b c d e=>?_,λa b d=>?_,λa b d=>?_⟩
 .rcases d with d|⟨rfl,d,_⟩<;>rcases e with e|⟨rfl,e,_⟩
  .exact h.apart _ _ _ d e
  .exact absurd (h.up _ _ d) BS
  {exact absurd (h.up _ _ e) BS};rfl
 .rcases d with d|⟨rfl,d,_⟩;{exact h.low _ _ d};omega
 rcases d with d|⟨rfl,d,e⟩
 .exact DO (h.up _ _ d) f
 exact e
theorem UQ{m:Nat}{O:Φ}(h:Tr Low n0 m t₀ t ow)(v:Ow Low ow w.heap.size)(hl:Low<=w.heap.size)(s:k=0\/∃j,j<m/\k=n0+j)(hS:GI Low O w w' es)(r:∀b,O b->ow k b)(fn:FuncId)(pos:String):
  Tr Low n0 m t₀ (t++MemOp.ofEvents k fn pos es) (OS ow k w w'):=by
 refine(h.wider λa b d=>.inl d).app (v.grow k hS.size hl) s (λop f=>by obtain⟨e,_,rfl⟩:=Go.Conc.mem_ofEvents f;rfl) (λop f a g _=>?_) λt=>?_
 .obtain⟨e,n,rfl⟩:=Go.Conc.mem_ofEvents f;rcases hS.ev e n with⟨o,wr,rfl,d⟩|rfl;case inr=>simp[MemAct.ofEvent,MemAct.touch?]at g
  simp[MemAct.ofEvent,MemAct.touch?]at g;subst g;refine .inl ⟨o,wr,rfl,d.imp (λd=>?_) id⟩;rcases d with d|⟨p,q⟩;{exact .inl (r _ d)};exact .inr ⟨rfl,p,q⟩
 rw[Deaf_own];exact deafBehind_still (λe n=>by rcases hS.ev e n with⟨o,wr,rfl,_⟩|rfl<;>simp) _
def KN{q:Nat}{y:AX}(h:QuitsD P q (Deaf t i) y)(hu:∀op∈u,op.g≠i):QuitsD P q (Deaf (t++u) i) y:=by
 have:Deaf (t++u) i=Deaf t i:=by
  obtain⟨l⟩:=u;rw[Deaf_append];induction l generalizing t with
  |nil=>rfl|cons y l b=>have d:=hu y BU;have a:deafStep i (Deaf t i) y=Deaf t i:=(by unfold deafStep;split<;>simp[d]);rw[List.foldl_cons,a];exact b h λop hop=>hu op yEi
 rwa[this]
def Bl{l:Nat}{g:AX}(h:l≠i):(gs.setIfInBounds i g)[l]?=gs[l]?:=JM (λe=>h e.symm)
def L9{fn:FuncId}{pos:String}(h:k≠i):∀op∈MemOp.ofEvents k fn pos es,op.g≠i:=λop a=>by obtain⟨e,_,rfl⟩:=Go.Conc.mem_ofEvents a;exact h
theorem PhI.own0'(h:PhI P Low n0 t₀ x ow comps gs w t)(h0:gs[0]?=some x.g)(hr:g'.status=.running)(hS:GI Low x.O w w' es)(fn:FuncId)(pos:String):
  PhI P Low n0 t₀ ⟨grown x.O w w',x.L,g',w'⟩ (OS ow 0 w w') comps (gs.setIfInBounds 0 g') w' (t++MemOp.ofEvents 0 fn pos es):=by
 have E:=(BF.1 h0).1;have⟨v,B⟩:=h.part (S:=x.O) (k:=0) h.own0;have F:=h.pos;refine⟨h.pos,xBh,h.c0,xBi,hr,Keep.refl _ _ _,.inl (by simp[E]),λi hi D=>?_,λj c n seen m=>?_,λb d=>?_,λj s r b d=>.inl (h.ownS j s r b d),λj c n seen m=>?_,h.dist,h.ows.grow 0 hS.size h.low,DU h.low hS.size,UQ h.tr h.ows h.low (.inl rfl) hS h.own0 fn pos⟩
 .have⟨q,y,f,o,C⟩:=h.old i hi D;exact⟨q,y,f,xAl,KN C (L9 BS)⟩
 .exact(h.snd j c n seen m).turn rfl (Bl BS) hS.chg (λs r=>B (n0+j) s.O BS (h.ownS j s r)) v (h.chan j c n seen m).2 (λop A e=>absurd e (L9 BS op A))
 .exact d.imp (h.own0 b) λ⟨a,b⟩=>⟨rfl,a,b⟩
 have⟨f,o⟩:=h.chan j c n seen m;refine⟨.inl f,λd=>?_⟩;rcases d with d|⟨d,_⟩
 .exact o d
 exact absurd (h.ows.up _ _ f) BS
theorem PhI.ownJ(h:PhI P Low n0 t₀ x ow comps gs w t){s:SC}(V:j<x.L.length)(B:comps[n0+j]?=some (.inl s))(hg:gs[n0+j]?=some s.g)(_hr:g'.status=.running)(hS:GI Low s.O w w' es)
  (Y:FD P Low ⟨s.c,grown s.O w w',s.vs,g',w'⟩) (fn:FuncId) (pos:String):
  PhI P Low n0 t₀ x (OS ow (n0+j) w w') (comps.set (n0+j) (.inl ⟨s.c,grown s.O w w',s.vs,g',w'⟩)) (gs.setIfInBounds (n0+j) g') w' (t++MemOp.ofEvents (n0+j) fn pos es):=by
 have G:=(BF.1 hg).1;have H:n0+j<comps.length:=by rwa[h.len]
 have⟨J,N⟩:=h.part (S:=s.O) (k:=n0+j) (h.ownS j s B);have Z:=h.pos;have I:∀m c n seen,x.L[m]?=some (c,n,seen)->¬s.O c:=λm c n seen X A=>by have:=h.ows.apart _ _ _ (h.chan m c n seen X).1 (h.ownS j s B c A);omega
 refine⟨h.pos,xBh,xBm,xBi,h.run,h.keep.chg hS.chg (N 0 x.O BS h.own0) J,?_,λi hi T=>?_,λm c n seen r=>?_,λb A=>.inl (h.own0 b A),λm v C b A=>?_,λm c n seen r=>⟨.inl (h.chan m c n seen r).1,(h.chan m c n seen r).2⟩,h.dist,h.ows.grow _ hS.size h.low,DU h.low hS.size,UQ h.tr h.ows h.low (.inr ⟨j,V,rfl⟩) hS (h.ownS j s B) fn pos⟩
 .rcases h.zero with h0|⟨k,c,vs,z,M,a,b,K,⟨d,v,e,f⟩|⟨d,e⟩⟩;{exact .inl yFa};{refine .inr ⟨k,c,vs,z,M,a,b,K,.inl ⟨xAl,?_⟩⟩;by_cases R:k=j;{subst R;exact⟨_,Gk H,Hi G⟩};exact⟨v,xBu,xAl⟩};exact .inr ⟨k,c,vs,z,M,a,b,K,.inr ⟨xAl,e.chg hS.chg (I k c vs false a)⟩⟩
 .have⟨q,y,o,D,F⟩:=h.old i hi T;exact⟨q,y,xBu,xAl,KN F (L9 BS)⟩
 .by_cases E:m=j;{subst E;rcases h.snd m c n seen r with⟨v,o,D,F,U,h5,h6,W,h8⟩|⟨q,y,o,_⟩;{rw[B]at o;cases o;exact .inl ⟨_,Gk H,D,F,U,Y,Keep.refl _ _ _,W.chg hS.chg (I m c n seen r),.inl (Hi G)⟩};rw[B]at o;cases o};exact(h.snd m c n seen r).turn (ES BS) (Bl BS) hS.chg (λv C=>N (n0+m) v.O BS (h.ownS m v C)) J (I m c n seen r) (λop Q e=>absurd e (L9 BS op Q))
 by_cases E:m=j
 .subst E;rw[Gk H]at C;cases C;exact A.imp (h.ownS m s B b) λ⟨a,b⟩=>⟨rfl,a,b⟩
 rw[ES BS]at C;exact .inl (h.ownS m v C b A)
end
section
variable {c j:Nat}{g0:AX}{vs vs':Θ}
variable {P : AY}{Low : Nat}{n0 : Nat}{t₀ : Trace}{x : RC}{ow : Nat -> Nat -> Prop}{comps iQ : List (SC ⊕ Nat)}{gs gs' : Array AX}{w w' : AU}{t u : Trace}
def FX.same(w:AU):FX (λ_=>False) w w:=⟨λ_ _ _=>rfl,DN _,rfl,rfl,rfl⟩
theorem K6{L:List (Nat × Θ × Bool)}{b f:Bool}(e:L[j]?=some (c,vs,b)){k d:Nat}{r:Θ}{s:Bool}(h:(L.set j (c,vs',f))[k]?=some (d,r,s)):∃m g,L[k]?=some (d,m,g):=by
 by_cases a:j=k
 .subst a;rw[Gk (BO.1 e).1]at h;cases h;exact⟨_,_,e⟩
 rw[ES a]at h;exact⟨_,_,h⟩
def PhI.lt(h:PhI P Low n0 t₀ x ow comps gs w t){e:Nat × Θ × Bool}(a:x.L[j]?=some e):j<x.L.length/\n0+j<gs.size/\n0+j<comps.length:=by have b:=(BO.1 a).1;have:=h.siz;have:=h.len;omega
theorem PhI.meet(h:PhI P Low n0 t₀ x ow comps gs w t){v:AW}{s:SC}{H J:Nat}(f:x.L[j]?=some (c,v::vs',false))(F:comps[n0+j]?=some (.inl s))
  (hX:FD P Low ⟨s.c,s.O,vs',Conc.served s.g AQ,w⟩) (hr:g0.status=.running) (N:gs'.size=gs.size) (h0:gs'[0]?=some g0) (hJ:gs'[n0+j]?=some (Conc.served s.g AQ)) (M:∀l,l≠0->l≠n0+j->gs'[l]?=gs[l]?)
  (hu:∀op∈u,op.act.touch?=none/\(op.act≠.mark .disable/\op.act≠.mark .enable)/\(op.g=0\/op.g=n0+j)):
  PhI P Low n0 t₀ ⟨x.O,x.L.set j (c,vs',false),g0,w⟩ ow (comps.set (n0+j) (.inl ⟨s.c,s.O,vs',Conc.served s.g AQ,w⟩)) gs' (w.setChan c 0 #[] false H J false) (t++u):=by
 have hn:=h.pos;have⟨hj,ab,V⟩:=h.lt f;have G:FX (λb=>b=c) w (w.setChan c 0 #[] false H J false):=FX.put w c _;have⟨I,Q⟩:=h.part (S:=λb=>b=c) (k:=0) (by rintro b rfl;exact(h.chan j _ _ _ f).1);have X:∀b,x.O b->b<w.heap.size/\¬b=c:=λb A=>⟨h.ows.up _ _ (h.own0 b A),λe=>(h.chan j _ _ _ f).2 (e ▸ A)⟩;have U:(w.setChan c 0 #[] false H J false).heap.size=w.heap.size:=by simp[World.setChan]
 have Y:Tr Low n0 (x.L.set j (c,vs',false)).length t₀ (t++u) ow:=by rw[PI];exact h.tr.silent λop n=>⟨(hu op n).1,λ_=>(hu op n).2.1⟩
 refine⟨h.pos,by rw[N];simpa using h.len,xBm,by rw[N];simpa using h.siz,hr,(Keep.refl _ _ _).chg G X I,.inl h0,λi hi Z=>?_,λk m E seen D=>?_,h.own0,λk C o b A=>?_,λk m E seen D=>?_,λa b m ad s2 r' ae d r=>?_,by rw[U];exact h.ows,by rw[U];exact h.low,Y⟩
 .have⟨q,y,d,r,R⟩:=h.old i hi Z;exact⟨q,y,xBu,by rwa[M i BS BS],KN R (λop n=>by rcases (hu op n).2.2 with e|e<;>omega)⟩
 .by_cases B:j=k;{subst B;have e:(x.L.set j (c,vs',false))[j]?=some (c,vs',false):=Gk hj;rw[show(x.L.set j (c,vs',false))[j]?=some (m,E,seen) from D]at e;cases e;rcases h.snd j c _ _ f with⟨C,d,r,R,h4,h5,h6,⟨a,b,h7⟩,h8⟩|⟨q,y,d,_⟩;{rw[F]at d;cases d;refine .inl ⟨_,Gk V,r,rfl,rfl,hX,(Keep.refl _ _ _).chg G (Q (n0+j) s.O BS (h.ownS j s F)) I,⟨_,_,heap_put h7⟩,.inl hJ⟩};rw[F]at d;cases d};have T:x.L[k]?=some (m,E,seen):=by rw[<-D];exact(ES B).symm
  exact(h.snd k m E seen T).turn (ES BS) (M _ BS BS) G (λC o=>Q (n0+k) C.O BS (h.ownS k C o)) I (λe=>B (h.dist j k c _ _ _ _ f (e ▸ T))) (λop n _=>(hu op n).1)
 .by_cases B:k=j;{subst B;rw[Gk V]at o;cases o;exact h.ownS k s F b A};rw[ES BS]at o;exact h.ownS k C o b A
 .have⟨W,K,e⟩:=K6 f D;exact h.chan k m W K e
 have⟨W,K,e⟩:=K6 f d;have⟨aa,ac,e'⟩:=K6 f r;exact h.dist a b m _ _ _ _ e e'
theorem PhI.seen(h:PhI P Low n0 t₀ x ow comps gs w t)(n:x.L[j]?=some (c,vs,false)){q:Nat}(V:comps[n0+j]?=some (.inr q))(hr:g0.status=.running)(D:gs'.size=gs.size)(h0:gs'[0]?=some g0)
  (v:∀l,l≠0->gs'[l]?=gs[l]?) (fn:FuncId) (pos:String):
  PhI P Low n0 t₀ ⟨x.O,x.L.set j (c,[],true),g0,w⟩ ow comps gs' w (t++#[{g:=0,fn,pos,act:=.recvClosed c}]):=by
 have W:=h.pos;have⟨Q,Z,aa⟩:=h.lt n;have hu:∀op∈(#[{g:=0,fn,pos,act:=.recvClosed c}]:Trace),op.g=0/\op.act.touch?=none/\op.act≠.mark .disable/\op.act≠.mark .enable:=by intro op d;have:op={g:=0,fn,pos,act:=.recvClosed c}:=xBt;subst this;exact⟨rfl,rfl,BU,BU⟩
 have M:Tr Low n0 (x.L.set j (c,[],true)).length t₀ (t++#[{g:=0,fn,pos,act:=.recvClosed c}]) ow:=by rw[PI];exact h.tr.silent λop d=>⟨(hu op d).2.1,λ_=>(hu op d).2.2⟩
 have⟨R,J⟩:=h.part (S:=λ_=>False) (k:=0) (λb H=>H.elim);refine⟨h.pos,by rw[D];exact h.len,h.c0,by rw[D];simpa using h.siz,hr,Keep.refl _ _ _,.inl h0,λi hi N=>?_,λk m s seen r=>?_,h.own0,h.ownS,λk m s seen r=>?_,λa b m ac s2 Y ad f o=>?_,h.ows,h.low,M⟩
 .have⟨q,y,f,o,A⟩:=h.old i hi N;exact⟨q,y,f,by rwa[v i BS],KN A (λop d=>by have:=(hu op d).1;omega)⟩
 .by_cases E:j=k;{subst E;have e:(x.L.set j (c,[],true))[j]?=some (c,[],true):=Gk Q;rw[show(x.L.set j (c,[],true))[j]?=some (m,s,seen) from r]at e;cases e;rcases h.snd j c _ _ n with⟨B,f,_⟩|⟨q,y,f,o,A,h4,I,G,h7⟩;{rw[V]at f;cases f};exact .inr ⟨q,y,f,by rwa[v _ BS],A,rfl,I,G.app (λop d _=>(hu op d).2.1),λ_=>G.known h.tr.hears fn pos⟩};have K:x.L[k]?=some (m,s,seen):=by rw[<-r];exact(ES E).symm
  exact(h.snd k m s seen K).turn rfl (v _ BS) (FX.same w) (λB U=>J (n0+k) B.O BS (h.ownS k B U)) R id (λop d _=>(hu op d).2.1)
 .have⟨F,C,e⟩:=K6 n r;exact h.chan k m F C e
 have⟨F,C,e⟩:=K6 n f;have⟨X,ab,T⟩:=K6 n o;exact h.dist a b m _ _ _ _ e T
theorem PhI.spawn(h:PhI P Low n0 t₀ x ow comps gs w t){g' child:AX}(_h0:gs[0]?=some x.g)(J:x.O c)(hr:g'.status=.running)(X:Zj c w)(hX:FD P Low ⟨c,λ_=>False,vs,child,w⟩)(fn B:FuncId)(pos v:String):
  PhI P Low n0 t₀ ⟨λb=>x.O b/\b≠c,x.L++[(c,vs,false)],g',w⟩ ow (comps++[.inl ⟨c,λ_=>False,vs,child,w⟩]) ((gs.setIfInBounds 0 g').push child) w (t++#[{g:=0,fn,pos,act:=.go gs.size},{g:=gs.size,fn:=B,pos:=v,act:=.start}]):=by
 have hn:=h.pos;have E:=h.siz;have T:=h.len;have hlt:0<gs.size:=BS;have aa:Tr Low n0 (x.L++[(c,vs,false)]).length t₀ (t++#[{g:=0,fn,pos,act:=.go gs.size},{g:=gs.size,fn:=B,pos:=v,act:=.start}]) ow:=by rw[DV,E];exact h.tr.spawn fn B pos v
 have hu:∀op∈(#[{g:=0,fn,pos,act:=.go gs.size},{g:=gs.size,fn:=B,pos:=v,act:=.start}]:Trace),(op.g=0\/op.g=gs.size)/\op.act.touch?=none:=by
  intro op s;have:op={g:=0,fn,pos,act:=.go gs.size}\/op={g:=gs.size,fn:=B,pos:=v,act:=.start}:=by simpa using s
  rcases this with rfl|rfl;{exact⟨.inl rfl,rfl⟩};exact⟨.inr rfl,rfl⟩
 have U:∀l,l≠0->l<gs.size->((gs.setIfInBounds 0 g').push child)[l]?=gs[l]?:=λl N hlt=>by rw[TV C0];rw[<-KD];exact Bl N
 have C:∀l,l<comps.length->(comps++[.inl ⟨c,λ_=>False,vs,child,w⟩])[l]?=comps[l]?:=λl N=>LR N;have⟨ad,Y⟩:=h.part (S:=λ_=>False) (k:=0) (λb f=>f.elim);have A:∀k d n seen,(x.L++[(c,vs,false)])[k]?=some (d,n,seen)->(k<x.L.length/\x.L[k]?=some (d,n,seen))\/(k=x.L.length/\d=c/\n=vs/\seen=false):=by intro k d n seen o;rcases GM k x.L.length with hlt|K;{rw[LR hlt]at o;exact .inl ⟨hlt,o⟩};rw[IG K]at o;obtain⟨m,rfl⟩:∃m,k=x.L.length+m:=⟨k - x.L.length,BS⟩;cases m with|zero=>simp at o;exact .inr ⟨rfl,o.1.symm,o.2.1.symm,o.2.2⟩|succ m=>simp at o
 refine⟨h.pos,by simp[T],by rw[C 0 BS];exact h.c0,by simp[E];omega,hr,Keep.refl _ _ _,.inl ?_,λi hi ab=>?_,λk d n seen H=>?_,λb f=>h.own0 b f.1,λk G r b f=>?_,λk d n seen H=>?_,λa b d ac s2 Q V I D=>?_,h.ows,h.low,aa⟩
 .rw[TV C0];simp
 .have⟨q,y,I,D,Z⟩:=h.old i hi ab;exact⟨q,y,by rwa[C i BS],by rwa[U i BS BS],KN Z (λop s=>by rcases (hu op s).1 with e|e<;>omega)⟩
 .rcases A k d n seen H with⟨o,F⟩|⟨rfl,rfl,rfl,rfl⟩;{exact(h.snd k d n seen F).turn (C _ BS) (U _ BS BS) (FX.same w) (λG r=>Y (n0+k) G.O BS (h.ownS k G r)) ad id (λop s _=>(hu op s).2)};refine .inl ⟨_,?_,rfl,rfl,rfl,hX,Keep.refl _ _ _,X,.inl ?_⟩;{rw[<-E,<-T];simp};rw[<-E];have:gs.size=(gs.setIfInBounds 0 g').size:=BU;rw[this];exact TS
 .rcases GM (n0+k) comps.length with hlt|K;{rw[C _ hlt]at r;exact h.ownS k G r b f};rw[IG K]at r;obtain⟨m,W⟩:∃m,n0+k - comps.length=m:=⟨_,rfl⟩;rw[W]at r;cases m with
  |zero=>simp at r;subst r;exact f.elim|succ m=>simp at r
 .rcases A k d n seen H with⟨o,F⟩|⟨rfl,rfl,rfl,rfl⟩;{exact⟨(h.chan k d n seen F).1,λf=>(h.chan k d n seen F).2 f.1⟩};exact⟨h.own0 _ J,λf=>f.2 rfl⟩
 rcases A a d ac s2 I with⟨ha,R⟩|⟨rfl,rfl,rfl,rfl⟩
 .rcases A b d Q V D with⟨f,M⟩|⟨rfl,rfl,rfl,rfl⟩;{exact h.dist a b d _ _ _ _ R M};exact absurd J (h.chan a _ _ _ R).2
 rcases A b d Q V D with⟨f,M⟩|⟨rfl,_,rfl,rfl⟩
 .exact absurd J (h.chan b _ _ _ M).2
 rfl
end
section
variable {c j k:Nat}{y':AX}{z:AW}
variable {P : AY}{Low : Nat}{n0 : Nat}{t₀ : Trace}{x : RC}{ow : Nat -> Nat -> Prop}{comps iQ : List (SC ⊕ Nat)}{gs gs' : Array AX}{w w' : AU}{t u : Trace}
def zAa {p:Prop}(h:p:=by
 rcases h.snd k c' rem seen hLk with⟨s,h1,h2,h3,h4,h5,h6,h7,h8⟩|⟨q,y,h1,h2,h3,h4⟩
 .exact .inl ⟨s,h1,h2,h3,h4,h5,h6,h7,by rwa[e]⟩
 exact .inr ⟨q,y,h1,by rw[e];exact h2,h3,h4⟩):p:=h
theorem PhI.park0(h:PhI P Low n0 t₀ x ow comps gs w t){vs:Θ}{s:SC}(a:x.L[j]?=some (c,vs,false))(b:comps[n0+j]?=some (.inl s))(hg:gs[n0+j]?=some s.g)
  (d:stepG P true x.g w=.comm x.g #[rcase c z] true (.recv true) w #[]):PhI P Low n0 t₀ x ow comps (gs.setIfInBounds 0 (parked x.g #[rcase c z] (.recv true))) w t:=by
 have n:=h.pos;have m:0<gs.size:=by have:=(h.lt a).2.1;omega
 refine⟨h.pos,xBh,h.c0,xBi,h.run,h.keep,.inr ⟨j,c,vs,z,w,a,h.keep,d,.inl ⟨by simp[m],s,b,xAl⟩⟩,λi hi f=>?_,λk c' rem seen hLk=>?_,h.own0,h.ownS,h.chan,h.dist,h.ows,h.low,h.tr⟩
 .have⟨q,y,h1,h2,h3⟩:=h.old i hi f;exact⟨q,y,h1,xAl,h3⟩
 have e:(gs.setIfInBounds 0 (parked x.g #[rcase c z] (.recv true)))[n0+k]?=gs[n0+k]?:=Bl BS;exact zAa
theorem PhI.parkJ(h:PhI P Low n0 t₀ x ow comps gs w t){rem:Θ}{v:AW}{s:SC}(n:x.L[j]?=some (c,rem,false))(o:comps[n0+j]?=some (.inl s))(hg:gs[n0+j]?=some s.g)
  (D:∀m,gs[0]?≠some (parked x.g #[rcase c m] (.recv true)))
  (G:stepG P false s.g w=.comm s.g #[scase c v z] true .send w #[]):PhI P Low n0 t₀ x ow comps (gs.setIfInBounds (n0+j) (parked s.g #[scase c v z] .send)) w t:=by
 have H:=h.pos;have⟨J,F,I⟩:=h.lt n;refine⟨h.pos,xBh,h.c0,xBi,h.run,h.keep,?_,λi hi E=>?_,λk c' rem seen hLk=>?_,h.own0,h.ownS,h.chan,h.dist,h.ows,h.low,h.tr⟩
 .rcases h.zero with h0|⟨k,c',vs,m,r,a,b,B,⟨d,C,e,f⟩|⟨d,e⟩⟩;{exact .inl yFa}
  .have A:k≠j:=by
    rintro rfl;rw[n]at a;cases a;exact D m d
   exact .inr ⟨k,c',vs,m,r,a,b,B,.inl ⟨xAl,C,e,xAl⟩⟩
  exact .inr ⟨k,c',vs,m,r,a,b,B,.inr ⟨xAl,e⟩⟩
 .have⟨q,y,h1,h2,h3⟩:=h.old i hi E;exact⟨q,y,h1,xAl,h3⟩
 by_cases A:k=j
 .subst A;rw[n]at hLk;cases hLk;rcases h.snd k c _ _ n with⟨C,h1,h2,h3,h4,h5,h6,h7,h8⟩|⟨q,y,h1,h2,h3,h4⟩;{rw[o]at h1;cases h1;exact .inl ⟨s,o,h2,h3,h4,h5,h6,h7,.inr ⟨v,z,w,Hi F,h6,h7,G⟩⟩};rw[o]at h1;cases h1
 have e:(gs.setIfInBounds (n0+j) (parked s.g #[scase c v z] .send))[n0+k]?=gs[n0+k]?:=Bl BS;exact zAa
theorem PhI.close(h:PhI P Low n0 t₀ x ow comps gs w t){s:SC}{g':AX}{n v C:Nat}(m:x.L[j]?=some (c,[],false))(hs:comps[n0+j]?=some (.inl s))(N:w.heap[c]?=some (.chan 0 #[] false v C false))(hq:QuitsIn P n g')
  (Q:gs'.size=gs.size) (hJ:gs'[n0+j]?=some g') (I:∀l,l≠0->l≠n0+j->gs'[l]?=gs[l]?)
  (h0:(gs'[0]?=gs[0]?/\∀z,gs[0]?≠some (parked x.g #[rcase c z] (.recv true)))\/∃z,gs[0]?=some (parked x.g #[rcase c z] (.recv true))/\gs'[0]?=some {parked x.g #[rcase c z] (.recv true) with status:=.running}) (fn:FuncId) (pos:String):
  PhI P Low n0 t₀ x ow (comps.set (n0+j) (.inr n)) gs' (w.shut c v C false) (t++MemOp.ofEvents (n0+j) fn pos #[⟨.obj c,false,true⟩,⟨.obj c,true,true⟩]):=by
 have hn:=h.pos;have⟨hj,af,T⟩:=h.lt m;have G:FX (λb=>b=c) w (w.shut c v C false):=FX.put w c _;have V:K1 c (w.shut c v C false):=⟨v,C,heap_put N⟩;have⟨U,hO⟩:=h.part (S:=λb=>b=c) (k:=0) (by rintro b rfl;exact(h.chan j _ _ _ m).1);have Z:∀b,x.O b->b<w.heap.size/\¬b=c:=λb F=>⟨h.ows.up _ _ (h.own0 b F),λe=>(h.chan j _ _ _ m).2 (e ▸ F)⟩;have R:(w.shut c v C false).heap.size=w.heap.size:=by simp[World.shut]
 have⟨ab,ae⟩:=h.tr.close (k:=n0+j) (c:=c) h.ows ⟨j,hj,rfl⟩ fn pos;refine⟨h.pos,by rw[Q];simpa using h.len,xBm,by rw[Q];exact h.siz,h.run,h.keep.chg G Z U,?_,λi hi ac=>?_,λk r ad seen E=>?_,h.own0,λk A B b F=>?_,h.chan,h.dist,by rw[R];exact h.ows,by rw[R];exact h.low,ab⟩
 .rcases h.zero with W|⟨k,r,vs,D,H,a,b,M,⟨d,A,e,f⟩|⟨d,e⟩⟩;{rcases h0 with⟨h0,_⟩|⟨z,h0,_⟩;{exact .inl (by rwa[h0])};rw[W]at h0;have:=congrArg Goroutine.status (E1 h0);rw[h.run]at this;cases this};{by_cases o:k=j;{subst o;rw[m]at a;cases a;rcases h0 with⟨_,h0⟩|⟨z,h0,J⟩;{exact absurd d (h0 D)};rw[d]at h0;have hz:D=z:=(by have:=congrArg Goroutine.offers (E1 h0);simp[parked,rcase]at this;exact this);subst hz;exact .inr ⟨k,c,[],D,H,m,b,M,.inr ⟨J,V⟩⟩};have K:r≠c:=λe=>o (h.dist k j c _ _ _ _ (e ▸ a) m);rcases h0 with⟨h0,_⟩|⟨z,h0,J⟩;{exact .inr ⟨k,r,vs,D,H,a,b,M,.inl ⟨by rwa[h0],A,xBu,by rwa[I _ BS BS]⟩⟩};rw[d]at h0;have:=congrArg Goroutine.offers (E1 h0);simp[parked,rcase]at this;exact absurd this.1 K};rcases h0 with⟨h0,_⟩|⟨z,h0,J⟩
  .have o:k≠j:=by
    rintro rfl;rw[m]at a;cases a;obtain⟨a1,a2,e⟩:=e;rw[N]at e;cases e
   have K:¬r=c:=λe=>o (h.dist k j c _ _ _ _ (e ▸ a) m)
   exact .inr ⟨k,r,vs,D,H,a,b,M,.inr ⟨by rwa[h0],e.chg G K⟩⟩
  rw[d]at h0;have:=congrArg Goroutine.status (E1 h0);simp[parked]at this
 .have⟨q,y,X,Y,h3⟩:=h.old i hi ac;exact⟨q,y,xBu,by rwa[I _ BS BS],KN h3 (L9 BS)⟩
 .by_cases o:k=j;{subst o;rw[m]at E;cases E;exact .inr ⟨n,g',Gk T,hJ,hq,rfl,V,ae,λe=>by cases e⟩};exact(h.snd k r ad seen E).turn (ES BS) (I _ BS BS) G (λA B=>hO (n0+k) A.O BS (h.ownS k A B)) U (λe=>o (h.dist k j c _ _ _ _ (e ▸ E) m)) (λop aa e=>absurd e (L9 BS op aa))
 by_cases o:k=j
 .subst o;rw[Gk T]at B;cases B
 rw[ES BS]at B;exact h.ownS k A B b F
theorem PhI.slipOld(h:PhI P Low n0 t₀ x ow comps gs w t){i:Nat}{es:Array Event}(hi:0<i)(V:i<n0)(F:∀e∈es,Event.mute e=true)(R:QuitsD P k (deafBehind (Deaf t i) es) y')(fn:FuncId)(pos:String):
  PhI P Low n0 t₀ x ow (comps.set i (.inr k)) (gs.setIfInBounds i y') w (t++MemOp.ofEvents i fn pos es):=by
 have U:=h.siz;have W:=h.len;have K:Tr Low n0 x.L.l t₀ (t++MemOp.ofEvents i fn pos es) ow:=h.tr.silent λop s=>by obtain⟨e,H,rfl⟩:=Go.Conc.mem_ofEvents s;exact⟨touch_mute (F e H),λn=>by rcases n with n|n<;>(simp at n;omega)⟩
 have⟨Q,I⟩:=h.part (S:=λ_=>False) (k:=0) (λb r=>r.elim);refine⟨h.pos,xBh,xBm,xBi,h.run,h.keep,?_,λl T M=>?_,λl m N seen C=>?_,h.own0,λl g o b r=>?_,h.chan,h.dist,h.ows,h.low,K⟩
 .rcases h.zero with h0|⟨k,m,vs,B,v,a,b,A,⟨d,g,e,f⟩|⟨d,e⟩⟩;{exact .inl yFa};{exact .inr ⟨k,m,vs,B,v,a,b,A,.inl ⟨xAl,g,xBu,xAl⟩⟩};exact .inr ⟨k,m,vs,B,v,a,b,A,.inr ⟨xAl,e⟩⟩
 .by_cases G:i=l;{subst G;exact⟨k,y',Gk BS,Hi BS,by rwa[Deaf_own]⟩};have⟨q,y,D,E,J⟩:=h.old l T M;exact⟨q,y,xBu,xAl,KN J (L9 BS)⟩
 .exact(h.snd l m N seen C).turn (ES BS) (Bl BS) (FX.same w) (λg o=>I (n0+l) g.O (by have:=h.pos;omega) (h.ownS l g o)) Q id (λop s e=>absurd e (L9 BS op s))
 rw[ES BS]at o;exact h.ownS l g o b r
theorem PhI.slipJ(h:PhI P Low n0 t₀ x ow comps gs w t){q:Nat}{e:Nat × Θ × Bool}(M:x.L[j]?=some e)(J:comps[n0+j]?=some (.inr q))(V:QuitsIn P k y'):
  PhI P Low n0 t₀ x ow (comps.set (n0+j) (.inr k)) (gs.setIfInBounds (n0+j) y') w t:=by
 have X:=h.pos;have⟨Z,S,G⟩:=h.lt M;refine⟨h.pos,xBh,xBm,xBi,h.run,h.keep,?_,λl W R=>?_,λl o H seen C=>?_,h.own0,λl B v b N=>?_,h.chan,h.dist,h.ows,h.low,h.tr⟩
 .rcases h.zero with h0|⟨k,o,vs,K,E,a,b,I,⟨d,B,e,f⟩|⟨d,e⟩⟩;{exact .inl yFa}
  .have Y:k≠j:=by
    rintro rfl;rw[J]at e;cases e
   exact .inr ⟨k,o,vs,K,E,a,b,I,.inl ⟨xAl,B,xBu,xAl⟩⟩
  exact .inr ⟨k,o,vs,K,E,a,b,I,.inr ⟨xAl,e⟩⟩
 .have⟨q,y,g,m,n⟩:=h.old l W R;exact⟨q,y,xBu,xAl,n⟩
 .by_cases A:l=j;{subst A;rcases h.snd l o H seen C with⟨s,g,_⟩|⟨q,y,g,m,n,r⟩;{rw[J]at g;cases g};exact .inr ⟨k,y',Gk G,Hi S,V,r⟩};have F:(comps.set (n0+j) (.inr k))[n0+l]?=comps[n0+l]?:=ES BS;have D:(gs.setIfInBounds (n0+j) y')[n0+l]?=gs[n0+l]?:=Bl BS;rcases h.snd l o H seen C with⟨s,g,m,n,r,O,U,T,Q⟩|⟨q,y,g,m,n,r⟩;{exact .inl ⟨s,by rwa[F],m,n,r,O,U,T,by rwa[D]⟩};exact .inr ⟨q,y,by rwa[F],by rwa[D],n,r⟩
 by_cases A:l=j
 .subst A;rw[Gk G]at v;cases v
 rw[ES BS]at v;exact h.ownS l B v b N
end
section
variable {c i j l:Nat}{y:AX}
variable {P : AY}{Low : Nat}{n0 : Nat}{t₀ : Trace}{x : RC}{ow : Nat -> Nat -> Prop}{comps : List (SC ⊕ Nat)}{gs : Array AX}{w : AU}{t : Trace}{sl : Option (Nat × Nat)}
def Reach(P:AY)(Stop:AX->World->Prop)(tape:Nat->Question->Nat)(gs:Array AX)(w:AU)(sl:Option (Nat × Nat))(t:Trace):Prop:=
 ∃N gs' g' w' b a,runNT P N (crowd gs w sl) t=(.next (crowd gs' w' b),a)/\M7 P gs' a g'/\w'.tape=tape/\Stop g' w'
theorem Reach.step{Stop:AX->World->Prop}{tape:Nat->Question->Nat}{d:Array AX}{a:AU}{b:Option (Nat × Nat)}{ops:Trace}(n:stepT P (crowd gs w sl)=(.next (crowd d a b),ops))(h:Reach P Stop tape d a b (t++ops)):Reach P Stop tape gs w sl t:=by obtain⟨N,gs',g',w',o,f,e,hF,g,m⟩:=h;exact⟨N+1,gs',g',w',o,f,by simp only[runNT,n];exact e,hF,g,m⟩
theorem GN(h:y.status=.running\/y.status=.finished):y.status≠.blocked:=by rcases h with h|h<;>rw[h]<;>simp
theorem PhI.offT(h:PhI P Low n0 t₀ x ow comps gs w t){vs:Θ}{A:Bool}(r:x.L[j]?=some (c,vs,A))(hl:l≠n0+j)(a:gs[l]?=some y):offersAt y c true=[]:=by
 have H:=(BF.1 a).1;rcases LP l with rfl|D
 .rcases h.zero with b|⟨k,o,vs,z,C,_,_,_,⟨b,_⟩|⟨b,_⟩⟩;{rw[b]at a;cases a;exact offersAt_of_not_blocked (GN (.inl h.run)) _ _};{rw[b]at a;cases a;exact offersAt_parked_recv' _ _ _ _ _};rw[b]at a;cases a;exact offersAt_of_not_blocked (GN (.inl rfl)) _ _
 rcases GM l n0 with n|n
 .have⟨q,y',_,d,g⟩:=h.old l D n;rw[a]at d;cases d;exact offersAt_of_not_blocked (GN g.status) _ _
 obtain⟨k,rfl⟩:∃k,l=n0+k:=⟨l - n0,BS⟩;have F:k<x.L.length:=xCb;obtain⟨⟨o,E,seen⟩,m⟩:∃e,x.L[k]?=some e:=⟨_,FA F⟩;rcases h.snd k o E seen m with⟨s,_,_,_,_,B,_,G,f|⟨v,z,C,f,_⟩⟩|⟨q,y',_,d,g,_⟩
 .rw[f]at a;cases a;exact offersAt_of_not_blocked (GN (.inl B.inv.1)) _ _
 .rw[f]at a;cases a;rw[offersAt_parked_send,BQ];rintro rfl;exact hl (by rw[h.dist k j _ _ _ _ _ m r])
 rw[d]at a;cases a;exact offersAt_of_not_blocked (GN g.status) _ _
theorem PhI.offF(h:PhI P Low n0 t₀ x ow comps gs w t)(hl:l≠0)(a:gs[l]?=some y):offersAt y c false=[]:=by
 have D:=(BF.1 a).1;rcases GM l n0 with g|g
 .have⟨q,y',_,b,f⟩:=h.old l BS g;rw[a]at b;cases b;exact offersAt_of_not_blocked (GN f.status) _ _
 obtain⟨k,rfl⟩:∃k,l=n0+k:=⟨l - n0,BS⟩;have A:k<x.L.length:=xCb;obtain⟨⟨n,r,seen⟩,m⟩:∃e,x.L[k]?=some e:=⟨_,FA A⟩;rcases h.snd k n r seen m with⟨s,_,_,_,_,o,_,B,d|⟨v,z,C,d,_⟩⟩|⟨q,y',_,b,f,_⟩
 .rw[d]at a;cases a;exact offersAt_of_not_blocked (GN (.inl o.inv.1)) _ _
 .rw[d]at a;cases a;exact offersAt_parked_send' _ _ _ _ _ _
 rw[b]at a;cases a;exact offersAt_of_not_blocked (GN f.status) _ _
theorem RR{b:Bool}(h:∀l y,l≠i->gs[l]?=some y->offersAt y c b=[]):partners (gs.setIfInBounds i ph) c b=[]:=by
 refine partners_nil λl y e=>?_;rcases getElem?_stand gs i l y e with⟨_,rfl⟩|⟨d,a⟩
 .exact offersAt_ph _ _
 exact h l y d a
theorem eT{b:Bool}{g:AX}(a:j≠i)(o:gs[j]?=some g)(f:offersAt g c b=[0])(h:∀l y,l≠i->l≠j->gs[l]?=some y->offersAt y c b=[]):partners (gs.setIfInBounds i ph) c b=[(j,0)]:=by
 rw[partners_one (stand_get a o) λl y m n=>?_,f]
 .rfl
 rcases getElem?_stand gs i l y n with⟨_,rfl⟩|⟨e,d⟩
 .exact offersAt_ph _ _
 exact h l y e m d
theorem PhI.ends(h:PhI P Low n0 t₀ x ow comps gs w t)(G:∀e∈x.L,e.2.2=true):M7 P gs t x.g:=by
 have B:∀(j c:Nat)(vs:Θ)(b:Bool),x.L[j]?=some (c,vs,b)->b=true:=λj c vs b D=>G _ (LO D);have hS:∀j,j<x.L.length->∃q y,gs[n0+j]?=some y/\QuitsIn P q y/\KI t (n0+j):=by intro j n;obtain⟨⟨A,F,seen⟩,v⟩:∃e,x.L[j]?=some e:=⟨_,FA n⟩;obtain rfl:=B _ _ _ _ v;rcases h.snd j A F true v with⟨s,_,_,_,e,_⟩|⟨q,y',_,d,m,_,_,_,H⟩;{cases e};exact⟨q,y',d,m,H rfl⟩
 refine⟨?_,?_,h.tr.past λj n=>(hS j n).choose_spec.choose_spec.2.2⟩
 .rcases h.zero with E|⟨k,A,vs,z,I,a,_⟩;{exact E};have:=B _ _ _ _ a;cases this
 .have C:∀i,0<i->i<gs.size->∃q,∀y,gs[i]?=some y->QuitsD P q (Deaf t i) y:=by
   intro i hi r;rcases GM i n0 with o|o
   .have⟨q,y',_,d,m⟩:=h.old i hi o
    exact⟨q,λy f=>by rw[f]at d;cases d;exact m⟩
   .obtain⟨k,rfl⟩:∃k,i=n0+k:=⟨i - n0,BS⟩
    have⟨q,y',d,m,_⟩:=hS k xCb;exact⟨q,λy f=>by rw[f]at d;cases d;rw[h.tr.hearS _ o];exact QuitsD.of_quitsIn m⟩
  classical
  refine⟨λi=>if hi:0<i/\i<gs.size then(C i hi.1 hi.2).choose else 0,λi y hi f=>?_,λj n=>h.tr.hearS j xCb⟩;have r:=(BF.1 f).1;simp only[hi,r,and_self,dite_true];exact(C i hi r).choose_spec y f
end
section
variable {P : AY}{Low : Nat}{n0 : Nat}{t₀ : Trace}{Stop : AX -> AU -> Prop}
theorem Auz{g:AX}{cs:Array CommCase}{sh:CommShape}(hr:g.status=.running)(w:AU):stepG P true {parked g cs sh with status:=.running} w=stepG P true g w:=by rw[stepG_tries];congr 1;obtain⟨a,b,c,d⟩:=g;simp at hr;subst hr;rfl
def pushes{t:Trace}{fn d:FuncId}{pos e:String}{k l:Nat}{a b:MemAct}:t++((MemOp.ofEvents k fn pos #[]).push {g:=k,fn,pos,act:=a}).push {g:=l,fn:=d,pos:=e,act:=b}=t++#[{g:=k,fn,pos,act:=a},{g:=l,fn:=d,pos:=e,act:=b}]:=by rw[ofEvents_eq];simp
def Oy(k:Nat)(fn:FuncId)(pos:String):MemOp.ofEvents k fn pos #[]=#[]:=by rw[ofEvents_eq];simp
theorem phase(tape:Nat->Question->Nat){x:RC}(h:FR P Low Stop x):
  ∀ow comps gs w t sl,PhI P Low n0 t₀ x ow comps gs w t->w.tape=tape->Reach P Stop tape gs w sl t:=by
 refine h (λx=>∀ow comps gs w t sl,PhI P Low n0 t₀ x ow comps gs w t->w.tape=tape->Reach P Stop tape gs w sl t) ?_;intro x hx ow comps gs w t sl f ag;have main:∀comps,Acc (RL (PC P Low)) comps->∀(n:Nat)(gs:Array AX)(ow:Nat->Nat->Prop)(w:AU)(t:Trace)(sl:Option (Nat × Nat)),cnt gs.toList=n->PhI P Low n0 t₀ x ow comps gs w t->w.tape=tape->Reach P Stop tape gs w sl t:=by
  intro comps aR;induction aR with
  |intro comps _ gp=>
  intro n;induction n using Nat.strongRecOn with
  |ind n aJ=>
  intro gs ow w t sl aG f ag;by_cases av:(∀e∈x.L,e.2.2=true)/\∀aC,Keep Low x.O x.w aC->Stop x.g aC;{exact⟨0,gs,x.g,w,sl,t,rfl,f.ends av.1,ag,av.2 w f.keep⟩};have hn:=f.pos
  obtain⟨i,y,d,X,hi,T,S⟩:=crowd_pick (P:=P) (w:=w) (sl:=sl) (λg C=>by
   have⟨i,hi⟩:=Array.mem_iff_getElem?.1 C
   exact(f.qt i g hi).awake) f.runs
  replace f:=f.at d;have N:(w.at d).tape=tape:=ag;generalize w.at d=w1 at f S N;clear ag;have al:=(BF.1 hi).1;have a3:∀(l:Nat)(g:AX),(gs.setIfInBounds l g).size=gs.size:=λl g=>by simp
  have closed:∀(j c:Nat)(vs:Θ)(z:AW)(q:Nat),i=0->x.L[j]?=some (c,vs,false)->stepG P true y w1=.comm x.g #[rcase c z] true (.recv true) w1 #[]->comps[n0+j]?=some (.inr q)->
    ((∀v vs',vs=v::vs'->∀ow comps gs w t sl,PhI P Low n0 t₀ ⟨x.O,x.L.set j (c,vs',false),Conc.served x.g (recvd true v true),w1⟩ ow comps gs w t->w.tape=tape->Reach P Stop tape gs w sl t)/\
     (vs=[]->∀ow comps gs w t sl,PhI P Low n0 t₀ ⟨x.O,x.L.set j (c,[],true),Conc.served x.g (recvd true z false),w1⟩ ow comps gs w t->w.tape=tape->Reach P Stop tape gs w sl t))->Reach P Stop tape gs w sl t:=by
   intro j c vs z q hi0 m e1 hq H;subst hi0;have ai:vs=[]/\K1 c w1/\∀y',gs[n0+j]?=some y'->y'.status≠.blocked:=by
    rcases f.snd j c vs false m with⟨s',r,_⟩|⟨q,y,r,A,Q,h4,h5,_⟩
    .rw[hq]at r;cases r
    .exact⟨h4,h5,λy' hy'=>by rw[hy']at A;cases A;exact GN Q.status⟩
   obtain⟨ai,⟨a,b,B⟩,aW⟩:=ai;have K:partners (gs.setIfInBounds 0 ph) c true=[]:=RR λl y' hl hy'=>by
    by_cases R:l=n0+j
    .subst R;exact offersAt_of_not_blocked (aW y' hy') _ _
    .exact f.offT m R hy'
   have o:=crowd_recv_closed (P:=P) (sl:=X) (i:=0) hi (show stepG P (0==0) y w1=_ from e1) B K;rw[finishComm_recv,Oy,Array.empty_append]at o;refine Reach.step (S.tr o) (H.2 ai _ _ _ _ _ _ (f.seen m hq rfl (a3 _ _) (by simp[al]) (λl hl=>Bl hl) _ _) N)
  rcases LP i with rfl|aH
  .rcases f.zero with G|⟨j,c,vs,z,F,m,J,I,⟨K,_⟩|⟨K,a8⟩⟩
   ·(obtain rfl:y=x.g:=by rw[G]at hi;exact(E1 hi).symm);rcases hx.2 with a5|ad|⟨c,B,ak⟩|⟨j,c,vs,z,m,ab⟩;{exact absurd a5 av};{have⟨g',w',es,e1,hr,hS,H⟩:=ad w1 f.keep;have U:=f.own0' G hr hS x.g.frame.fn x.g.frame.place;have o:=runT_crowd_go (P:=P) (sl:=X) (i:=0) G (show stepG P (0==0) x.g w1=_ from e1);rw[Y8 λl y' hl hy'=>(U.qt l y' yFb).woken]at o;exact Reach.step (S.tr o) (H _ _ _ _ _ _ U (hS.tape.tr N))};{have⟨g',child,vs,e1,hr,ab,M,hS,H⟩:=ak w1 f.keep;have o:=runT_crowd_spawn (P:=P) (sl:=X) (i:=0) G (show stepG P (0==0) x.g w1=_ from e1);refine Reach.step (S.tr o) ?_;rw[pushes];exact H _ _ _ _ _ _ (f.spawn G B hr M hS _ _ _ _) N};have⟨e1,H⟩:=ab w1 f.keep;have aZ:=(f.lt m).2.1;rcases f.snd j c vs false m with⟨s,Y,s2,s3,_,dF,hk,M,C|⟨v,V,F,C,J,an,I⟩⟩|⟨q,y,r,A,Q,h4,h5,_⟩
    .obtain⟨a,b,B⟩:=M;have K:partners (gs.setIfInBounds 0 ph) c true=[]:=RR λl y' hl hy'=>by
      by_cases R:l=n0+j
      .subst R;rw[C]at hy';cases hy';exact offersAt_of_not_blocked (GN (.inl dF.inv.1)) _ _
      .exact f.offT m R hy'
     have o:=crowd_waits (P:=P) (sl:=X) (i:=0) G (show stepG P (0==0) x.g w1=_ from e1) (λcc af=>by
      have:cc=rcase c z:=by simpa using af
      subst this
      exact ways_recv_none B K)
     refine Reach.step (S.tr o) ?_;rw[Oy,Array.append_empty];refine aJ _ ?_ _ _ _ _ _ rfl (f.park0 m Y C e1) N;rw[<-aG,Array.toList_setIfInBounds];exact UH (x:=x.g) (by simpa using G) (GN (.inl f.run)) rfl
    .obtain⟨a,b,B⟩:=M;have aQ:∃vs',s.vs=v::vs'/\(∃z,stepG P false s.g w1=.comm s.g #[scase s.c v z] true .send w1 #[])/\FD P Low ⟨s.c,s.O,vs',Conc.served s.g AQ,w1⟩:=by
      subst s2;rcases dF.inv.2 with ap|⟨v',vs',e,ax⟩|⟨_,_,aB⟩
      .have⟨g',w',es,E,_⟩:=ap F J an
       rw[I]at E;cases E
      .have⟨⟨z2,E⟩,_⟩:=ax F J an
       rw[I]at E;have:v'=v:=by
        have:=congrArg (λs=>match s with|GStep.comm _ cs _ _ _ _=>cs.toList.map CommCase.send|_=>[]) E
        simp[scase]at this;exact this.symm
       subst this;exact⟨vs',e,(ax w1 hk ⟨a,b,B⟩).1,(ax w1 hk ⟨a,b,B⟩).2⟩
      .obtain⟨a',b',ao⟩:=an
       have⟨g',n',E,_⟩:=aB F a' b' J ao;rw[I]at E;cases E
     obtain⟨vs',ai,⟨z2,E⟩,aP⟩:=aQ;have mP:=s3.tr ai;have aK:n0+j≠0:=BS
     have K:=eT aK C (by rw[offersAt_parked_send,BR rfl]) λl y' hl R hy'=>f.offT m R hy'
     have o:=crowd_recv_meets (P:=P) (sl:=X) (i:=0) G (show stepG P (0==0) x.g w1=_ from e1) B aK C K;rw[finishComm_recv,finishComm_send,Oy,Array.empty_append]at o;refine Reach.step (S.tr o) (H.1 v vs' mP _ _ _ _ _ _ (f.meet (mP ▸ m) Y aP rfl BU ?_ ?_ ?_ ?_) N)
     .simp[al]
     .rw[Bl BS];exact Hi aZ
     .intro l r A;rw[Bl r,Bl A]
     .intro op ah
      simp at ah;rcases ah with rfl|rfl|rfl|rfl<;>simp[MemAct.touch?]
    exact closed j c vs z q rfl m e1 r H
   {rw[K]at hi;have:=E1 hi;rw[<-this]at T;cases T};have a6:y={parked x.g #[rcase c z] (.recv true) with status:=.running}:=(by rw[K]at hi;exact(E1 hi).symm);have aX:stepG P true y w1=stepG P true x.g w1:=(by rw[a6];exact Auz f.run w1);(obtain⟨q,hq⟩:∃q,comps[n0+j]?=some (.inr q):=by rcases f.snd j c vs false m with⟨s,Y,s2,s3,_,dF,hk,⟨a,b,M⟩,_⟩|⟨q,y,r,_⟩;{obtain⟨a',b',ao⟩:=a8;rw[M]at ao;cases ao};exact⟨q,r⟩);rcases hx.2 with⟨az,_⟩|ad|⟨c,B,ak⟩|⟨j',W,vs',V,ae,ab⟩;{have:=az _ (LO m);cases this};{have⟨g',w',es,e1,_⟩:=ad F J;rw[I]at e1;cases e1};{have⟨g',child,vs,e1,_⟩:=ak F J;rw[I]at e1;cases e1};have E:=(ab F J).1;(rw[I]at E;have:c=W/\z=V:=by have:=congrArg (λs=>match s with|GStep.comm _ cs _ _ _ _=>cs.toList|_=>[]) E;simp[rcase]at this;exact this);obtain⟨rfl,rfl⟩:=this;obtain rfl:=f.dist j j' c _ _ _ _ m ae;rw[m]at ae;cases ae;have⟨e1,H⟩:=ab w1 f.keep;exact closed j c vs z q rfl m (aX.tr e1) hq H
  have hi0:(i==0)=false:=by simp;omega
  rcases GM i n0 with ar|ar
  .have⟨q,y',r,A,Q⟩:=f.old i aH ar;rw[hi]at A;cases A;cases q with
   |zero=>rw[Q.1]at T;cases T
   |succ k=>rcases Q with⟨hf,_⟩|⟨_,y',es,hm,aw,ay⟩;{rw[hf]at T;cases T};have U:=f.slipOld aH ar hm ay y.frame.fn y.frame.place;have o:=runT_crowd_go (P:=P) (sl:=X) (i:=i) hi (by rw[hi0];exact aw w1);rw[Y8 λl y' hl hy'=>(U.qt l y' yFb).woken]at o;exact Reach.step (S.tr o) (gp _ ⟨i,.inr (k+1),.inr k,r,EQ k,rfl⟩ _ _ _ _ _ _ rfl U N)
  obtain⟨j,rfl⟩:∃j,i=n0+j:=⟨i - n0,BS⟩;have hj:j<x.L.length:=by have:=f.siz;omega
  obtain⟨⟨c,au,seen⟩,m⟩:∃e,x.L[j]?=some e:=⟨_,FA hj⟩;rcases f.snd j c au seen m with⟨s,Y,s2,s3,s4,dF,hk,M,C|⟨v,V,F,C,J,an,I⟩⟩|⟨q,y',r,A,Q,h4,h5,_⟩
  ·(obtain rfl:y=s.g:=by rw[C]at hi;exact(E1 hi).symm);subst s2 s4;rcases dF.inv.2 with ad|⟨v,vs',e,hv⟩|⟨aO,aL,aB⟩;{have⟨g',w',es,e1,hr,hS,H⟩:=ad w1 hk M;have U:=f.ownJ hj Y C hr hS H s.g.frame.fn s.g.frame.place;have o:=runT_crowd_go (P:=P) (sl:=X) (i:=n0+j) C yGb;rw[Y8 λl y' hl hy'=>(U.qt l y' yFb).woken]at o;refine Reach.step (S.tr o) (gp _ ⟨n0+j,_,_,Y,?_,rfl⟩ _ _ _ _ _ _ rfl U (hS.tape.tr N));refine⟨w1,hk,M,.inl ⟨g',w',es,e1,M.chg hS.chg λhb=>?_,rfl⟩⟩;have:=f.ows.apart _ _ _ (f.chan j _ _ _ m).1 (f.ownS j s Y _ hb);omega}
   .have⟨⟨z,e1⟩,H⟩:=hv w1 hk M;have⟨a,b,B⟩:=id M;by_cases aI:∃V,gs[0]?=some (parked x.g #[rcase s.c V] (.recv true));{obtain⟨V,aa⟩:=aI;have K:partners (gs.setIfInBounds (n0+j) ph) s.c false=[(0,0)]:=eT BS aa (by rw[offersAt_parked_recv,BR rfl]) λl y' hl aj hy'=>f.offF aj hy';have o:=crowd_send_meets (P:=P) (sl:=X) (i:=n0+j) (j:=0) C yGb B BS aa K;rw[finishComm_recv,finishComm_send,Oy,Array.empty_append]at o;rcases f.zero with G|⟨k,W,aD,z2,F,ac,J,I,⟨D,_⟩|⟨D,_⟩⟩;{rw[G]at aa;have:=congrArg Goroutine.status (E1 aa);rw[f.run]at this;cases this};{rw[D]at aa;have aM:W=s.c/\z2=V:=(by have:=congrArg Goroutine.offers (E1 aa);simp[parked,rcase]at this;exact this);obtain⟨rfl,rfl⟩:=aM;obtain rfl:=f.dist k j s.c _ _ _ _ ac m;rw[m]at ac;cases ac;rcases hx.2 with⟨az,_⟩|ad|⟨c,B,ak⟩|⟨j',W,a9,z3,ae,ab⟩;{have:=az _ (LO m);cases this};{have⟨g',w',es,e1,_⟩:=ad F J;rw[I]at e1;cases e1};{have⟨g',child,vs,e1,_⟩:=ak F J;rw[I]at e1;cases e1};have E:=(ab F J).1;(rw[I]at E;have:s.c=W:=by have:=congrArg (λs=>match s with|GStep.comm _ cs _ _ _ _=>cs.toList|_=>[]) E;simp[rcase]at this;exact this.1);subst this;obtain rfl:=f.dist k j' s.c _ _ _ _ m ae;rw[m]at ae;cases ae;have mP:=s3.tr e;refine Reach.step (S.tr o) ((ab w1 f.keep).2.1 v vs' mP _ _ _ _ _ _ (f.meet (mP ▸ m) Y H rfl BU ?_ ?_ ?_ ?_) N);{rw[Bl BS];exact Hi BS};{exact Hi (by simpa using al)};{intro l r A;rw[Bl A,Bl r]};intro op ah;simp at ah;rcases ah with rfl|rfl|rfl|rfl<;>simp[MemAct.touch?]};rw[D]at aa;have:=congrArg Goroutine.status (E1 aa);simp[parked]at this};have aF:∀V,gs[0]?≠some (parked x.g #[rcase s.c V] (.recv true)):=λV Z=>aI ⟨V,Z⟩;have K:partners (gs.setIfInBounds (n0+j) ph) s.c false=[]:=RR λl y' hl hy'=>by rcases LP l with rfl|aj;{rcases f.zero with G|⟨k,W,aD,z2,F,ac,J,I,⟨D,_⟩|⟨D,_⟩⟩;{rw[G]at hy';cases hy';exact offersAt_of_not_blocked (GN (.inl f.run)) _ _};{rw[D]at hy';cases hy';rw[offersAt_parked_recv,BQ];rintro rfl;exact aF _ D};rw[D]at hy';cases hy';exact offersAt_of_not_blocked (GN (.inl rfl)) _ _};exact f.offF BS hy'
    have o:=crowd_waits (P:=P) (sl:=X) (i:=n0+j) C yGb (λcc af=>by
     have:cc=scase s.c v z:=by simpa using af
     subst this
     exact ways_send_none B BU K)
    refine Reach.step (S.tr o) ?_;rw[Oy,Array.append_empty];refine aJ _ ?_ _ _ _ _ _ rfl (f.parkJ m Y C aF e1) N;rw[<-aG,Array.toList_setIfInBounds];exact UH (x:=s.g) (by simpa using C) (GN (.inl dF.inv.1)) rfl
   have⟨a,b,B⟩:=id M;have⟨g',nq,e1,hr,hq⟩:=aB w1 a b hk B;have qy:=s3.tr aO;subst qy;have o:=runT_crowd_go (P:=P) (sl:=X) (i:=n0+j) C yGb;have hC:FX (λb=>b=s.c) w1 (w1.shut s.c a b false):=FX.put w1 s.c _;have aN:∀l y',l≠0->l≠n0+j->gs[l]?=some y'->woken P s.g g' (w1.shut s.c a b false) y'=y':=(by intro l y' aj R hy';have ba:=(BF.1 hy').1;rcases GM l n0 with aE|aE;{have⟨q,y2,_,A,Q⟩:=f.old l BS aE;rw[hy']at A;cases A;exact woken_quitsD Q};obtain⟨k,rfl⟩:∃k,l=n0+k:=⟨l - n0,BS⟩;have aT:k<x.L.length:=(by have:=f.siz;omega);obtain⟨⟨W,au,seen⟩,ac⟩:∃e,x.L[k]?=some e:=⟨_,FA aT⟩;rcases f.snd k W au seen ac with⟨s',_,_,_,_,yD,_,ap,r|⟨v,z,F,r,_⟩⟩|⟨q,y2,_,A,Q,_⟩;{rw[r]at hy';cases hy';exact woken_run yD.inv.1};{rw[r]at hy';cases hy';have⟨a2,b2,aA⟩:=ap.chg hC (λe=>R (by rw[f.dist k j s.c _ _ _ _ (e ▸ ac) m]));exact woken_send_open _ _ aA};rw[A]at hy';cases hy';exact woken_quitsD (QuitsD.of_quitsIn Q));have aS:((gs.map (woken P s.g g' (w1.shut s.c a b false))).setIfInBounds (n0+j) g').size=gs.size:=BU;refine Reach.step (S.tr o) (gp _ ⟨n0+j,.inl s,.inr nq,Y,trivial,rfl⟩ _ _ _ _ _ _ rfl (f.close m Y B hq aS ?_ ?_ ?_ _ _) N);{exact Hi (by simpa using al)}
   .intro l aj R;rw[Bl R,MY];cases aV:gs[l]? with
    |none=>rfl|some y'=>simp[aN l y' aj R aV]
   rw[Bl BS,MY];rcases f.zero with G|⟨k,W,aD,z2,F,ac,J,I,⟨D,_⟩|⟨D,_⟩⟩;{refine .inl ⟨by rw[G];simp[woken_run f.run],λz Z=>?_⟩;rw[G]at Z;have:=congrArg Goroutine.status (E1 Z);rw[f.run]at this;cases this};{by_cases af:W=s.c;{subst af;(refine .inr ⟨z2,D,?_⟩;rw[D];simp only[MZ,FC];have aU:(mayWake P s.g && g'.status !=.blocked && g'.status !=.waiting)=true:=by rw[aL,hr];rfl);unfold Conc.woken;rw[BR aU];exact again_recv_closed (heap_put B)};refine .inl ⟨?_,λz Z=>?_⟩;{rw[D];(simp only[MZ,FC];have a7:Zj W w1:=by rcases f.qt 0 _ D with h|⟨g2,c2,z3,sh,e,aY⟩|⟨g2,c2,v2,z3,sh,e,_⟩;{rcases h with h|h<;>cases h};{have:=congrArg Goroutine.offers e;simp[parked,rcase]at this;rwa[this.1.1]};have:=congrArg Goroutine.offers e;simp[parked,rcase,scase]at this);have⟨a2,b2,aA⟩:=a7.chg hC af;exact woken_recv_open _ _ aA};rw[D]at Z;have:=congrArg Goroutine.offers (E1 Z);simp[parked,rcase]at this;exact af this.1};refine .inl ⟨by rw[D];simp only[MZ,FC];exact woken_run rfl,λz Z=>?_⟩;rw[D]at Z;have:=congrArg Goroutine.status (E1 Z);simp[parked]at this
  {rw[C]at hi;have:=E1 hi;rw[<-this]at T;cases T};rw[hi]at A;cases A;cases q with
  |zero=>rw[show y.status=.finished from Q]at T;cases T
  |succ k=>rcases Q with hf|⟨_,y',aw,ay⟩;{rw[hf]at T;cases T};have U:=f.slipJ m r ay;have o:=runT_crowd_go (P:=P) (sl:=X) (i:=n0+j) hi (by rw[hi0];exact aw w1);rw[Y8 λl y' hl hy'=>(U.qt l y' yFb).woken]at o;refine Reach.step (S.tr o) ?_;rw[Oy,Array.append_empty];exact gp _ ⟨n0+j,.inr (k+1),.inr k,r,EQ k,rfl⟩ _ _ _ _ _ _ rfl U N
 exact main comps f.acc _ gs ow w t sl rfl f ag
end
