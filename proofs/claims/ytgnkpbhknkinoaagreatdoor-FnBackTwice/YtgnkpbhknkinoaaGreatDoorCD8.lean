import Derived.Test.YtgnkpbhknkinoaaGreatDoorCD2
set_option linter.defProp false
namespace Go.Co
open Go.Conc
open Go.ConcN (sumTo upd sumTo_upd upd_ne upd_same)
variable {Low c:Nat}{w':AU}{y:AX}
structure FR(S:Nat->Prop)(w w':AU):Prop where
 rest:∀b,b<w.heap.size->¬S b->w'.heap[b]?=w.heap[b]?
 size:w.heap.size<=w'.heap.size
 tape:w'.tape=w.tape
 os:w'.os=w.os
 out:w'.output=w.output
def F4.chg{O:Nat->Prop}{w:AU}{es:Array Event}(h:F4 Low O w w' es):FR O w w':=⟨h.rest,h.size,h.tape,h.os,h.out⟩
def FR.put(w:AU)(c:Nat)(o:Obj):FR (λb=>b=c) w {w with heap:=w.heap.setIfInBounds c o}:=
 ⟨λb _ a=>JI (λe=>a e.symm),BU,rfl,rfl,rfl⟩
def Keep.chg{O S:Nat->Prop}{f w:AU}(h:Keep Low O f w)(d:FR S w w')(e:∀b,O b->b<w.heap.size/\¬S b)(g:∀b,b<Low->b<w.heap.size/\¬S b):Keep Low O f w':=
 ⟨λb a=>(d.rest b (g b a).1 (g b a).2).tr (h.still b a),λb a=>(d.rest b (e b a).1 (e b a).2).tr (h.mine b a),DR h.size d.size,d.tape.tr h.tape,d.os.tr h.os,d.out.tr h.out⟩
def Zc.chg{S:Nat->Prop}{w:AU}(h:Zc c w)(b:FR S w w')(hS:¬S c):Zc c w':=by obtain⟨s,r,e⟩:=h;have a:=(BF.1 e).1;exact⟨s,r,(b.rest c a hS).tr e⟩
def KW.chg{S:Nat->Prop}{w:AU}(h:KW c w)(b:FR S w w')(hS:¬S c):KW c w':=by obtain⟨s,r,e⟩:=h;have a:=(BF.1 e).1;exact⟨s,r,(b.rest c a hS).tr e⟩
def Qt(w:AU)(y:AX):Prop:=
 (y.status=.running\/y.status=.finished)\/(∃g c z a,y=parked g #[rcase c z] a/\Zc c w)\/∃g c v z a,y=parked g #[scase c v z] a/\Zc c w
theorem Qt.woken{P:AY}{w:AU}{a b:AX}(h:Qt w y):woken P a b w y=y:=by
 rcases h with h|⟨g,c,z,e,rfl,s,r,d⟩|⟨g,c,v,z,e,rfl,s,r,d⟩
 .unfold Conc.woken;split;{exact again_running _ h};rfl
 .exact woken_recv_open a b d
 exact woken_send_open a b d
theorem Qt.awake{w:AU}(h:Qt w y):awake y:=by
 intro t a;rcases h with h|⟨g,c,z,b,rfl,_⟩|⟨g,c,v,z,b,rfl,_⟩
 .rcases h with h|h<;>rw[h]at a<;>cases a
 .cases a
 cases a
theorem Y0{gs:Array AX}{i:Nat}{f:AX->Goroutine}{g':AX}(h:∀l y,l≠i->gs[l]?=some y->f y=y):(gs.map f).setIfInBounds i g'=gs.setIfInBounds i g':=by
 apply Array.ext_getElem?;intro l;by_cases a:i=l
 .subst a;by_cases hlt:i<gs.size;{rw[HQ Cd,HQ hlt]};rw[PC Cd,PC Cd]
 rw[JI a,JI a,MV];cases b:gs[l]? with|none=>rfl|some y=>simp[h l y (λe=>a e.symm) b]
def cnt:List AX->Nat
 |[]=>0
 |g::l=>(if g.status=.blocked then 0 else 1)+cnt l
theorem TQ:∀{l:List AX}{i:Nat}{x y:AX},l[i]?=some x->x.status≠.blocked->y.status=.blocked->cnt (l.set i y)<cnt l:=by
 intro l;induction l with
 |nil=>intro i x y h;simp at h
 |cons a l e=>
  intro i x y h b d;cases i with
  |zero=>simp at h;subst h;simp only[List.set_cons_zero,cnt,d,if_true,b,EH];omega|succ i=>simp at h;have:=e h b d;simp only[List.set_cons_succ,cnt];omega
section
variable (P : AY)(Low : Nat)(n0 : Nat)(t₀ : Trace)
def M9(comps:List (SC ⊕ Nat))(gs:Array AX)(w:AU)(t:Trace)(j c:Nat)(b:List AW)(seen:Bool):Prop:=
 (∃s,comps[n0+j]?=some (.inl s)/\s.c=c/\b=s.vs/\seen=false/\FA P Low s/\Keep Low s.O s.w w/\Zc c w/\
  (gs[n0+j]?=some s.g\/∃v z a,gs[n0+j]?=some (parked s.g #[scase c v z] .send)/\Keep Low s.O s.w a/\Zc c a/\stepG P false s.g a=.comm s.g #[scase c v z] true .send a #[]))\/
 (∃q y,comps[n0+j]?=some (.inr q)/\gs[n0+j]?=some y/\QuitsIn P q y/\b=[]/\KW c w/\Xj t (n0+j) c/\(seen=true->KO t (n0+j)))
structure PhI(x:RC)(ow:Nat->Nat->Prop)(comps:List (SC ⊕ Nat))(gs:Array AX)(w:AU)(t:Trace):Prop where
 pos:0<n0
 len:comps.length=gs.size
 c0:comps[0]?=some (.inr 0)
 siz:gs.size=n0+x.L.length
 run:x.g.status=.running
 keep:Keep Low x.O x.w w
 zero:gs[0]?=some x.g\/∃(j c:Nat)(vs:List AW)(z:AW)(w₀:AU),x.L[j]?=some (c,vs,false)/\Keep Low x.O x.w w₀/\stepG P true x.g w₀=.comm x.g #[rcase c z] true (.recv true) w₀ #[]/\
  ((gs[0]?=some (parked x.g #[rcase c z] (.recv true))/\∃s,comps[n0+j]?=some (.inl s)/\gs[n0+j]?=some s.g)\/(gs[0]?=some {parked x.g #[rcase c z] (.recv true) with status:=.running}/\KW c w))
 old:∀i,0<i->i<n0->∃q y,comps[i]?=some (.inr q)/\gs[i]?=some y/\QuitsD P q (Deaf t i) y
 snd:∀(j c:Nat)(rem:List AW)(seen:Bool),x.L[j]?=some (c,rem,seen)->M9 P Low n0 comps gs w t j c rem seen
 own0:∀b,x.O b->ow 0 b
 ownS:∀j s,comps[n0+j]?=some (.inl s)->∀b,s.O b->ow (n0+j) b
 chan:∀(j c:Nat)(rem:List AW)(seen:Bool),x.L[j]?=some (c,rem,seen)->ow 0 c/\¬x.O c
 dist:∀(j k c:Nat)(r:List AW)(s:Bool)(r':List AW)(s':Bool),x.L[j]?=some (c,r,s)->x.L[k]?=some (c,r',s')->j=k
 ows:Ow Low ow w.heap.size
 low:Low<=w.heap.size
 tr:Tr Low n0 x.L.length t₀ t ow
end
section
variable {P : AY}{Low : Nat}{n0 : Nat}{t₀ : Trace}{x : RC}{ow : Nat -> Nat -> Prop}{comps : List (SC ⊕ Nat)}{gs : Array AX}{w : AU}{t : Trace}
theorem PhI.qt(h:PhI P Low n0 t₀ x ow comps gs w t):∀(i:Nat)(y:AX),gs[i]?=some y->Qt w y:=by
 intro i y a;have G:=(BF.1 a).1;rcases LI i with rfl|A
 .rcases h.zero with b|⟨j,c,vs,z,E,o,_,_,⟨b,s,C,_⟩|⟨b,_⟩⟩;{rw[b]at a;cases a;exact .inl (.inl h.run)};{rw[b]at a;cases a;refine .inr (.inl ⟨_,c,z,_,rfl,?_⟩);rcases h.snd j c vs false o with⟨H,f,_,_,_,_,_,m,_⟩|⟨q,y',f,_⟩;{exact m};rw[C]at f;cases f};rw[b]at a;cases a;exact .inl (.inl rfl)
 rcases GI i n0 with r|r
 .have⟨q,y',_,d,n⟩:=h.old i A r;rw[a]at d;cases d;exact .inl n.status
 obtain⟨j,rfl⟩:∃j,i=n0+j:=⟨i - n0,BS⟩;have D:j<x.L.length:=xBw;obtain⟨⟨c,B,seen⟩,o⟩:∃e,x.L[j]?=some e:=⟨_,E7 D⟩;rcases h.snd j c B seen o with⟨s,_,_,_,_,F,_,m,g|⟨v,z,E,g,_⟩⟩|⟨q,y',_,d,n,_⟩
 .rw[g]at a;cases a;exact .inl (.inl F.inv.1)
 .rw[g]at a;cases a;exact .inr (.inr ⟨_,c,v,z,_,rfl,m⟩)
 rw[d]at a;cases a;exact .inl n.status
theorem PhI.runs(h:PhI P Low n0 t₀ x ow comps gs w t):∃(i:Nat)(y:AX),gs[i]?=some y/\y.status=.running:=by
 rcases h.zero with b|⟨j,c,vs,z,m,g,_,_,⟨b,s,d,e⟩|⟨b,_⟩⟩
 .exact⟨0,_,b,h.run⟩
 .rcases h.snd j c vs false g with⟨n,a,_,_,_,f,_,_,_⟩|⟨q,y',a,_⟩;{rw[d]at a;cases a;exact⟨_,_,e,f.inv.1⟩};rw[d]at a;cases a
 exact⟨0,_,b,rfl⟩
theorem PhI.at(h:PhI P Low n0 t₀ x ow comps gs w t)(d:Nat):PhI P Low n0 t₀ x ow comps gs (w.at d) t:=
 ⟨h.pos,h.len,h.c0,h.siz,h.run,h.keep.at d,h.zero,h.old,λj c m seen o=>(h.snd j c m seen o).imp (λ⟨s,a,b,c,n,e,f,g,i⟩=>⟨s,a,b,c,n,e,f.at d,g,i⟩) id,h.own0,h.ownS,h.chan,h.dist,h.ows,h.low,h.tr⟩
theorem PhI.acc(h:PhI P Low n0 t₀ x ow comps gs w t):Acc (RL (NI P Low)) comps:=by
 refine RL.acc λy m=>?_;have⟨i,hi⟩:=List.mem_iff_getElem?.1 m;have r:i<comps.length:=by exact(BO.1 hi).1
 rcases LI i with rfl|d
 .rw[h.c0]at hi;cases hi;exact Xe P Low 0
 rcases GI i n0 with b|b
 .have⟨q,y',a,_⟩:=h.old i d b;rw[a]at hi;cases hi;exact Xe P Low q
 obtain⟨j,rfl⟩:∃j,i=n0+j:=⟨i - n0,BS⟩;have g:j<x.L.length:=by have:=h.siz;have:=h.len;omega
 obtain⟨⟨c,f,seen⟩,o⟩:∃e,x.L[j]?=some e:=⟨_,E7 g⟩;rcases h.snd j c f seen o with⟨s,a,_,_,_,n,_⟩|⟨q,y',a,_⟩
 .rw[a]at hi;cases hi;exact xJ n.acc
 rw[a]at hi;cases hi;exact Xe P Low q
end
section
variable {es:Array Event}{g':AX}{i j k:Nat}
variable {P : AY}{Low : Nat}{n0 : Nat}{t₀ : Trace}{x : RC}{ow : Nat -> Nat -> Prop}{comps iK : List (SC ⊕ Nat)}{gs gs' : Array AX}{w w' : AU}{t u : Trace}
theorem M9.turn{S:Nat->Prop}{c:Nat}{p:List AW}{seen:Bool}(h:M9 P Low n0 comps gs w t j c p seen)(v:iK[n0+j]?=comps[n0+j]?)(hg:gs'[n0+j]?=gs[n0+j]?)(hS:FR S w w')
  (D:∀s,comps[n0+j]?=some (.inl s)->∀b,s.O b->b<w.heap.size/\¬S b) (C:∀b,b<Low->b<w.heap.size/\¬S b) (r:¬S c) (hu:∀op∈u,op.g=n0+j->op.act.touch?=none):M9 P Low n0 iK gs' w' (t++u) j c p seen:=by
 rcases h with⟨s,a,m,e,n,o,f,d,A⟩|⟨q,y,a,m,e,n,o,f,d⟩
 .exact .inl ⟨s,by rwa[v],m,e,n,o,f.chg hS (D s a) C,d.chg hS r,by rwa[hg]⟩
 exact .inr ⟨q,y,by rwa[v],by rwa[hg],e,n,o.chg hS r,f.app hu,λB=>(d B).app hu⟩
def PhI.part(h:PhI P Low n0 t₀ x ow comps gs w t){S:Nat->Prop}(hS:∀b,S b->ow k b):
  (∀b,b<Low->b<w.heap.size/\¬S b)/\(∀(l:Nat)(O:Nat->Prop),l≠k->(∀b,O b->ow l b)->∀b,O b->b<w.heap.size/\¬S b):=
 ⟨λb a=>⟨DL a h.low,λd=>Nat.not_lt.2 (h.ows.low _ _ (hS b d)) a⟩,λ_l _O f e b a=>⟨h.ows.up _ _ (e b a),λd=>f (h.ows.apart _ _ _ (e b a) (hS b d))⟩⟩
def OU(ow:Nat->Nat->Prop)(k:Nat)(w w':AU):Nat->Nat->Prop:=λl b=>ow l b\/(l=k/\w.heap.size<=b/\b<w'.heap.size)
theorem Ow.grow(h:Ow Low ow w.heap.size)(k:Nat)(f:w.heap.size<=w'.heap.size)(hl:Low<=w.heap.size):Ow Low (OU ow k w w') w'.heap.size:=by
 refine⟨λa b c d e=>?_,λa b d=>?_,λa b d=>?_⟩
 .rcases d with d|⟨rfl,d,_⟩<;>rcases e with e|⟨rfl,e,_⟩
  .exact h.apart _ _ _ d e
  .exact absurd (h.up _ _ d) BS
  {exact absurd (h.up _ _ e) BS};rfl
 .rcases d with d|⟨rfl,d,_⟩;{exact h.low _ _ d};omega
 rcases d with d|⟨rfl,d,e⟩
 .exact DL (h.up _ _ d) f
 exact e
theorem UA{m:Nat}{O:Nat->Prop}(h:Tr Low n0 m t₀ t ow)(r:Ow Low ow w.heap.size)(hl:Low<=w.heap.size)(v:k=0\/∃j,j<m/\k=n0+j)(hS:F4 Low O w w' es)(q:∀b,O b->ow k b)(fn:FuncId)(pos:String):
  Tr Low n0 m t₀ (t++MemOp.ofEvents k fn pos es) (OU ow k w w'):=by
 refine(h.wider λa b d=>.inl d).app (r.grow k hS.size hl) v (λop n=>by obtain⟨e,_,rfl⟩:=Go.Conc.mem_ofEvents n;rfl) (λop n a g _=>?_) λt=>?_
 .obtain⟨e,f,rfl⟩:=Go.Conc.mem_ofEvents n;rcases hS.ev e f with⟨o,wr,rfl,d⟩|rfl;case inr=>simp[MemAct.ofEvent,MemAct.touch?]at g
  simp[MemAct.ofEvent,MemAct.touch?]at g;subst g;refine .inl ⟨o,wr,rfl,d.imp (λd=>?_) id⟩;rcases d with d|⟨p,s⟩;{exact .inl (q _ d)};exact .inr ⟨rfl,p,s⟩
 rw[Deaf_own];exact deafBehind_still (λe f=>by rcases hS.ev e f with⟨o,wr,rfl,_⟩|rfl<;>simp) _
def Z9{q:Nat}{y:AX}(h:QuitsD P q (Deaf t i) y)(hu:∀op∈u,op.g≠i):QuitsD P q (Deaf (t++u) i) y:=by
 have:Deaf (t++u) i=Deaf t i:=by
  obtain⟨l⟩:=u;rw[Deaf_append];induction l generalizing t with
  |nil=>rfl|cons y l a=>have d:=hu y BU;have b:deafStep i (Deaf t i) y=Deaf t i:=(by unfold deafStep;split<;>simp[d]);rw[List.foldl_cons,b];exact a h λop hop=>hu op yEh
 rwa[this]
def Bj{l:Nat}{g:AX}(h:l≠i):(gs.setIfInBounds i g)[l]?=gs[l]?:=JI (λe=>h e.symm)
def L6{fn:FuncId}{pos:String}(h:k≠i):∀op∈MemOp.ofEvents k fn pos es,op.g≠i:=λop a=>by obtain⟨e,_,rfl⟩:=Go.Conc.mem_ofEvents a;exact h
theorem PhI.own0'(h:PhI P Low n0 t₀ x ow comps gs w t)(h0:gs[0]?=some x.g)(hr:g'.status=.running)(hS:F4 Low x.O w w' es)(fn:FuncId)(pos:String):
  PhI P Low n0 t₀ ⟨grown x.O w w',x.L,g',w'⟩ (OU ow 0 w w') comps (gs.setIfInBounds 0 g') w' (t++MemOp.ofEvents 0 fn pos es):=by
 have v:=(BF.1 h0).1;have⟨E,B⟩:=h.part (S:=x.O) (k:=0) h.own0;have F:=h.pos;refine⟨h.pos,xBc,h.c0,xBd,hr,Keep.refl _ _ _,.inl (by simp[v]),λi hi A=>?_,λj c f seen m=>?_,λb d=>?_,λj s o b d=>.inl (h.ownS j s o b d),λj c f seen m=>?_,h.dist,h.ows.grow 0 hS.size h.low,DR h.low hS.size,UA h.tr h.ows h.low (.inl rfl) hS h.own0 fn pos⟩
 .have⟨q,y,n,r,D⟩:=h.old i hi A;exact⟨q,y,n,xAh,Z9 D (L6 BS)⟩
 .exact(h.snd j c f seen m).turn rfl (Bj BS) hS.chg (λs o=>B (n0+j) s.O BS (h.ownS j s o)) E (h.chan j c f seen m).2 (λop C e=>absurd e (L6 BS op C))
 .exact d.imp (h.own0 b) λ⟨a,b⟩=>⟨rfl,a,b⟩
 have⟨n,r⟩:=h.chan j c f seen m;refine⟨.inl n,λd=>?_⟩;rcases d with d|⟨d,_⟩
 .exact r d
 exact absurd (h.ows.up _ _ n) BS
theorem PhI.ownJ(h:PhI P Low n0 t₀ x ow comps gs w t){s:SC}(T:j<x.L.length)(B:comps[n0+j]?=some (.inl s))(hg:gs[n0+j]?=some s.g)(_hr:g'.status=.running)(hS:F4 Low s.O w w' es)
  (U:FA P Low ⟨s.c,grown s.O w w',s.vs,g',w'⟩) (fn:FuncId) (pos:String):
  PhI P Low n0 t₀ x (OU ow (n0+j) w w') (comps.set (n0+j) (.inl ⟨s.c,grown s.O w w',s.vs,g',w'⟩)) (gs.setIfInBounds (n0+j) g') w' (t++MemOp.ofEvents (n0+j) fn pos es):=by
 have D:=(BF.1 hg).1;have G:n0+j<comps.length:=by rwa[h.len]
 have⟨N,J⟩:=h.part (S:=s.O) (k:=n0+j) (h.ownS j s B);have hn:=h.pos;have E:∀m c n seen,x.L[m]?=some (c,n,seen)->¬s.O c:=λm c n seen X C=>by have:=h.ows.apart _ _ _ (h.chan m c n seen X).1 (h.ownS j s B c C);omega
 refine⟨h.pos,xBc,xBi,xBd,h.run,h.keep.chg hS.chg (J 0 x.O BS h.own0) N,?_,λi hi Q=>?_,λm c n seen o=>?_,λb C=>.inl (h.own0 b C),λm v A b C=>?_,λm c n seen o=>⟨.inl (h.chan m c n seen o).1,(h.chan m c n seen o).2⟩,h.dist,h.ows.grow _ hS.size h.low,DR h.low hS.size,UA h.tr h.ows h.low (.inr ⟨j,T,rfl⟩) hS (h.ownS j s B) fn pos⟩
 .rcases h.zero with h0|⟨k,c,vs,z,K,a,b,M,⟨d,v,e,f⟩|⟨d,e⟩⟩;{exact .inl yEj};{refine .inr ⟨k,c,vs,z,K,a,b,M,.inl ⟨xAh,?_⟩⟩;by_cases R:k=j;{subst R;exact⟨_,GY G,HQ D⟩};exact⟨v,xBp,xAh⟩};exact .inr ⟨k,c,vs,z,K,a,b,M,.inr ⟨xAh,e.chg hS.chg (E k c vs false a)⟩⟩
 .have⟨q,y,r,F,H⟩:=h.old i hi Q;exact⟨q,y,xBp,xAh,Z9 H (L6 BS)⟩
 .by_cases I:m=j;{subst I;rcases h.snd m c n seen o with⟨v,r,F,H,Y,h5,Z,V,h8⟩|⟨q,y,r,_⟩;{rw[B]at r;cases r;exact .inl ⟨_,GY G,F,H,Y,U,Keep.refl _ _ _,V.chg hS.chg (E m c n seen o),.inl (HQ D)⟩};rw[B]at r;cases r};exact(h.snd m c n seen o).turn (EP BS) (Bj BS) hS.chg (λv A=>J (n0+m) v.O BS (h.ownS m v A)) N (E m c n seen o) (λop W e=>absurd e (L6 BS op W))
 by_cases I:m=j
 .subst I;rw[GY G]at A;cases A;exact C.imp (h.ownS m s B b) λ⟨a,b⟩=>⟨rfl,a,b⟩
 rw[EP BS]at A;exact .inl (h.ownS m v A b C)
end
section
variable {c j:Nat}{g0:AX}{vs vs':List AW}
variable {P : AY}{Low : Nat}{n0 : Nat}{t₀ : Trace}{x : RC}{ow : Nat -> Nat -> Prop}{comps iK : List (SC ⊕ Nat)}{gs gs' : Array AX}{w w' : AU}{t u : Trace}
def FR.same(w:AU):FR (λ_=>False) w w:=⟨λ_ _ _=>rfl,DK _,rfl,rfl,rfl⟩
theorem K1{L:List (Nat × List AW × Bool)}{b g:Bool}(a:L[j]?=some (c,vs,b)){k e:Nat}{r:List AW}{s:Bool}(h:(L.set j (c,vs',g))[k]?=some (e,r,s)):∃f m,L[k]?=some (e,f,m):=by
 by_cases d:j=k
 .subst d;rw[GY (BO.1 a).1]at h;cases h;exact⟨_,_,a⟩
 rw[EP d]at h;exact⟨_,_,h⟩
def PhI.lt(h:PhI P Low n0 t₀ x ow comps gs w t){e:Nat × List AW × Bool}(a:x.L[j]?=some e):j<x.L.length/\n0+j<gs.size/\n0+j<comps.length:=by have b:=(BO.1 a).1;have:=h.siz;have:=h.len;omega
theorem PhI.meet(h:PhI P Low n0 t₀ x ow comps gs w t){v:AW}{s:SC}{G J:Nat}(f:x.L[j]?=some (c,v::vs',false))(E:comps[n0+j]?=some (.inl s))
  (hX:FA P Low ⟨s.c,s.O,vs',Conc.served s.g AQ,w⟩) (hr:g0.status=.running) (Q:gs'.size=gs.size) (h0:gs'[0]?=some g0) (hJ:gs'[n0+j]?=some (Conc.served s.g AQ)) (V:∀l,l≠0->l≠n0+j->gs'[l]?=gs[l]?)
  (hu:∀op∈u,op.act.touch?=none/\(op.act≠.mark .disable/\op.act≠.mark .enable)/\(op.g=0\/op.g=n0+j)):
  PhI P Low n0 t₀ ⟨x.O,x.L.set j (c,vs',false),g0,w⟩ ow (comps.set (n0+j) (.inl ⟨s.c,s.O,vs',Conc.served s.g AQ,w⟩)) gs' (w.setChan c 0 #[] false G J false) (t++u):=by
 have hn:=h.pos;have⟨Z,af,R⟩:=h.lt f;have I:FR (λb=>b=c) w (w.setChan c 0 #[] false G J false):=FR.put w c _;have⟨H,M⟩:=h.part (S:=λb=>b=c) (k:=0) (by rintro b rfl;exact(h.chan j _ _ _ f).1);have X:∀b,x.O b->b<w.heap.size/\¬b=c:=λb B=>⟨h.ows.up _ _ (h.own0 b B),λe=>(h.chan j _ _ _ f).2 (e ▸ B)⟩;have T:(w.setChan c 0 #[] false G J false).heap.size=w.heap.size:=by simp[World.setChan]
 have aa:Tr Low n0 (x.L.set j (c,vs',false)).length t₀ (t++u) ow:=by rw[OY];exact h.tr.silent λop o=>⟨(hu op o).1,λ_=>(hu op o).2.1⟩
 refine⟨h.pos,by rw[Q];simpa using h.len,xBi,by rw[Q];simpa using h.siz,hr,(Keep.refl _ _ _).chg I X H,.inl h0,λi hi Y=>?_,λk m D seen F=>?_,h.own0,λk C n b B=>?_,λk m D seen F=>?_,λa b m ab s2 r' ac d A=>?_,by rw[T];exact h.ows,by rw[T];exact h.low,aa⟩
 .have⟨q,y,d,A,U⟩:=h.old i hi Y;exact⟨q,y,xBp,by rwa[V i BS BS],Z9 U (λop o=>by rcases (hu op o).2.2 with e|e<;>omega)⟩
 .by_cases r:j=k;{subst r;have e:(x.L.set j (c,vs',false))[j]?=some (c,vs',false):=GY Z;rw[show(x.L.set j (c,vs',false))[j]?=some (m,D,seen) from F]at e;cases e;rcases h.snd j c _ _ f with⟨C,d,A,U,h4,h5,h6,⟨a,b,h7⟩,h8⟩|⟨q,y,d,_⟩;{rw[E]at d;cases d;refine .inl ⟨_,GY R,A,rfl,rfl,hX,(Keep.refl _ _ _).chg I (M (n0+j) s.O BS (h.ownS j s E)) H,⟨_,_,heap_put h7⟩,.inl hJ⟩};rw[E]at d;cases d};have N:x.L[k]?=some (m,D,seen):=by rw[<-F];exact(EP r).symm
  exact(h.snd k m D seen N).turn (EP BS) (V _ BS BS) I (λC n=>M (n0+k) C.O BS (h.ownS k C n)) H (λe=>r (h.dist j k c _ _ _ _ f (e ▸ N))) (λop o _=>(hu op o).1)
 .by_cases r:k=j;{subst r;rw[GY R]at n;cases n;exact h.ownS k s E b B};rw[EP BS]at n;exact h.ownS k C n b B
 .have⟨K,W,e⟩:=K1 f F;exact h.chan k m K W e
 have⟨K,W,e⟩:=K1 f d;have⟨ad,ae,e'⟩:=K1 f A;exact h.dist a b m _ _ _ _ e e'
theorem PhI.seen(h:PhI P Low n0 t₀ x ow comps gs w t)(o:x.L[j]?=some (c,vs,false)){q:Nat}(U:comps[n0+j]?=some (.inr q))(hr:g0.status=.running)(G:gs'.size=gs.size)(h0:gs'[0]?=some g0)
  (B:∀l,l≠0->gs'[l]?=gs[l]?) (fn:FuncId) (pos:String):
  PhI P Low n0 t₀ ⟨x.O,x.L.set j (c,[],true),g0,w⟩ ow comps gs' w (t++#[{g:=0,fn,pos,act:=.recvClosed c}]):=by
 have hn:=h.pos;have⟨Q,ab,Z⟩:=h.lt o;have hu:∀op∈(#[{g:=0,fn,pos,act:=.recvClosed c}]:Trace),op.g=0/\op.act.touch?=none/\op.act≠.mark .disable/\op.act≠.mark .enable:=by intro op d;have:op={g:=0,fn,pos,act:=.recvClosed c}:=xBo;subst this;exact⟨rfl,rfl,BU,BU⟩
 have R:Tr Low n0 (x.L.set j (c,[],true)).length t₀ (t++#[{g:=0,fn,pos,act:=.recvClosed c}]) ow:=by rw[OY];exact h.tr.silent λop d=>⟨(hu op d).2.1,λ_=>(hu op d).2.2⟩
 have⟨J,M⟩:=h.part (S:=λ_=>False) (k:=0) (λb V=>V.elim);refine⟨h.pos,by rw[G];exact h.len,h.c0,by rw[G];simpa using h.siz,hr,Keep.refl _ _ _,.inl h0,λi hi K=>?_,λk m s seen v=>?_,h.own0,h.ownS,λk m s seen v=>?_,λa b m r s2 r' X f n=>?_,h.ows,h.low,R⟩
 .have⟨q,y,f,n,A⟩:=h.old i hi K;exact⟨q,y,f,by rwa[B i BS],Z9 A (λop d=>by have:=(hu op d).1;omega)⟩
 .by_cases E:j=k;{subst E;have e:(x.L.set j (c,[],true))[j]?=some (c,[],true):=GY Q;rw[show(x.L.set j (c,[],true))[j]?=some (m,s,seen) from v]at e;cases e;rcases h.snd j c _ _ o with⟨C,f,_⟩|⟨q,y,f,n,A,h4,T,F,h7⟩;{rw[U]at f;cases f};exact .inr ⟨q,y,f,by rwa[B _ BS],A,rfl,T,F.app (λop d _=>(hu op d).2.1),λ_=>F.known h.tr.hears fn pos⟩};have N:x.L[k]?=some (m,s,seen):=by rw[<-v];exact(EP E).symm
  exact(h.snd k m s seen N).turn rfl (B _ BS) (FR.same w) (λC I=>M (n0+k) C.O BS (h.ownS k C I)) J id (λop d _=>(hu op d).2.1)
 .have⟨D,H,e⟩:=K1 o v;exact h.chan k m D H e
 have⟨D,H,e⟩:=K1 o f;have⟨Y,aa,W⟩:=K1 o n;exact h.dist a b m _ _ _ _ e W
theorem PhI.spawn(h:PhI P Low n0 t₀ x ow comps gs w t){g' child:AX}(_h0:gs[0]?=some x.g)(N:x.O c)(hr:g'.status=.running)(ho:Zc c w)(hX:FA P Low ⟨c,λ_=>False,vs,child,w⟩)(fn C:FuncId)(pos v:String):
  PhI P Low n0 t₀ ⟨λb=>x.O b/\b≠c,x.L++[(c,vs,false)],g',w⟩ ow (comps++[.inl ⟨c,λ_=>False,vs,child,w⟩]) ((gs.setIfInBounds 0 g').push child) w (t++#[{g:=0,fn,pos,act:=.go gs.size},{g:=gs.size,fn:=C,pos:=v,act:=.start}]):=by
 have hn:=h.pos;have G:=h.siz;have V:=h.len;have hlt:0<gs.size:=BS;have aa:Tr Low n0 (x.L++[(c,vs,false)]).length t₀ (t++#[{g:=0,fn,pos,act:=.go gs.size},{g:=gs.size,fn:=C,pos:=v,act:=.start}]) ow:=by rw[DT,G];exact h.tr.spawn fn C pos v
 have hu:∀op∈(#[{g:=0,fn,pos,act:=.go gs.size},{g:=gs.size,fn:=C,pos:=v,act:=.start}]:Trace),(op.g=0\/op.g=gs.size)/\op.act.touch?=none:=by
  intro op A;have:op={g:=0,fn,pos,act:=.go gs.size}\/op={g:=gs.size,fn:=C,pos:=v,act:=.start}:=by simpa using A
  rcases this with rfl|rfl;{exact⟨.inl rfl,rfl⟩};exact⟨.inr rfl,rfl⟩
 have T:∀l,l≠0->l<gs.size->((gs.setIfInBounds 0 g').push child)[l]?=gs[l]?:=λl J hlt=>by rw[TG Cd];rw[<-J2];exact Bj J
 have D:∀l,l<comps.length->(comps++[.inl ⟨c,λ_=>False,vs,child,w⟩])[l]?=comps[l]?:=λl J=>LL J;have⟨X,Z⟩:=h.part (S:=λ_=>False) (k:=0) (λb f=>f.elim);have B:∀k d n seen,(x.L++[(c,vs,false)])[k]?=some (d,n,seen)->(k<x.L.length/\x.L[k]?=some (d,n,seen))\/(k=x.L.length/\d=c/\n=vs/\seen=false):=by intro k d n seen o;rcases GI k x.L.length with hlt|I;{rw[LL hlt]at o;exact .inl ⟨hlt,o⟩};rw[I0 I]at o;obtain⟨m,rfl⟩:∃m,k=x.L.length+m:=⟨k - x.L.length,BS⟩;cases m with|zero=>simp at o;exact .inr ⟨rfl,o.1.symm,o.2.1.symm,o.2.2⟩|succ m=>simp at o
 refine⟨h.pos,by simp[V],by rw[D 0 BS];exact h.c0,by simp[G];omega,hr,Keep.refl _ _ _,.inl ?_,λi hi Y=>?_,λk d n seen K=>?_,λb f=>h.own0 b f.1,λk H s b f=>?_,λk d n seen K=>?_,λa b d r s2 U R M F=>?_,h.ows,h.low,aa⟩
 .rw[TG Cd];simp
 .have⟨q,y,M,F,h3⟩:=h.old i hi Y;exact⟨q,y,by rwa[D i BS],by rwa[T i BS BS],Z9 h3 (λop A=>by rcases (hu op A).1 with e|e<;>omega)⟩
 .rcases B k d n seen K with⟨o,E⟩|⟨rfl,rfl,rfl,rfl⟩;{exact(h.snd k d n seen E).turn (D _ BS) (T _ BS BS) (FR.same w) (λH s=>Z (n0+k) H.O BS (h.ownS k H s)) X id (λop A _=>(hu op A).2)};refine .inl ⟨_,?_,rfl,rfl,rfl,hX,Keep.refl _ _ _,ho,.inl ?_⟩;{rw[<-G,<-V];simp};rw[<-G];have:gs.size=(gs.setIfInBounds 0 g').size:=BU;rw[this];exact TB
 .rcases GI (n0+k) comps.length with hlt|I;{rw[D _ hlt]at s;exact h.ownS k H s b f};rw[I0 I]at s;obtain⟨m,hm⟩:∃m,n0+k - comps.length=m:=⟨_,rfl⟩;rw[hm]at s;cases m with
  |zero=>simp at s;subst s;exact f.elim|succ m=>simp at s
 .rcases B k d n seen K with⟨o,E⟩|⟨rfl,rfl,rfl,rfl⟩;{exact⟨(h.chan k d n seen E).1,λf=>(h.chan k d n seen E).2 f.1⟩};exact⟨h.own0 _ N,λf=>f.2 rfl⟩
 rcases B a d r s2 M with⟨ha,W⟩|⟨rfl,rfl,rfl,rfl⟩
 .rcases B b d U R F with⟨f,Q⟩|⟨rfl,rfl,rfl,rfl⟩;{exact h.dist a b d _ _ _ _ W Q};exact absurd N (h.chan a _ _ _ W).2
 rcases B b d U R F with⟨f,Q⟩|⟨rfl,_,rfl,rfl⟩
 .exact absurd N (h.chan b _ _ _ Q).2
 rfl
end
section
variable {c j k:Nat}{y':AX}{z:AW}
variable {P : AY}{Low : Nat}{n0 : Nat}{t₀ : Trace}{x : RC}{ow : Nat -> Nat -> Prop}{comps iK : List (SC ⊕ Nat)}{gs gs' : Array AX}{w w' : AU}{t u : Trace}
def zya {p:Prop}(h:p:=by
 rcases h.snd k c' rem seen hLk with⟨s,h1,h2,h3,h4,h5,h6,h7,h8⟩|⟨q,y,h1,h2,h3,h4⟩
 .exact .inl ⟨s,h1,h2,h3,h4,h5,h6,h7,by rwa[e]⟩
 exact .inr ⟨q,y,h1,by rw[e];exact h2,h3,h4⟩):p:=h
theorem PhI.park0(h:PhI P Low n0 t₀ x ow comps gs w t){vs:List AW}{s:SC}(a:x.L[j]?=some (c,vs,false))(d:comps[n0+j]?=some (.inl s))(hg:gs[n0+j]?=some s.g)
  (m:stepG P true x.g w=.comm x.g #[rcase c z] true (.recv true) w #[]):PhI P Low n0 t₀ x ow comps (gs.setIfInBounds 0 (parked x.g #[rcase c z] (.recv true))) w t:=by
 have n:=h.pos;have b:0<gs.size:=by have:=(h.lt a).2.1;omega
 refine⟨h.pos,xBc,h.c0,xBd,h.run,h.keep,.inr ⟨j,c,vs,z,w,a,h.keep,m,.inl ⟨by simp[b],s,d,xAh⟩⟩,λi hi f=>?_,λk c' rem seen hLk=>?_,h.own0,h.ownS,h.chan,h.dist,h.ows,h.low,h.tr⟩
 .have⟨q,y,h1,h2,h3⟩:=h.old i hi f;exact⟨q,y,h1,xAh,h3⟩
 have e:(gs.setIfInBounds 0 (parked x.g #[rcase c z] (.recv true)))[n0+k]?=gs[n0+k]?:=Bj BS;exact zya
theorem PhI.parkJ(h:PhI P Low n0 t₀ x ow comps gs w t){rem:List AW}{v:AW}{s:SC}(n:x.L[j]?=some (c,rem,false))(o:comps[n0+j]?=some (.inl s))(hg:gs[n0+j]?=some s.g)
  (E:∀m,gs[0]?≠some (parked x.g #[rcase c m] (.recv true)))
  (F:stepG P false s.g w=.comm s.g #[scase c v z] true .send w #[]):PhI P Low n0 t₀ x ow comps (gs.setIfInBounds (n0+j) (parked s.g #[scase c v z] .send)) w t:=by
 have J:=h.pos;have⟨H,G,I⟩:=h.lt n;refine⟨h.pos,xBc,h.c0,xBd,h.run,h.keep,?_,λi hi D=>?_,λk c' rem seen hLk=>?_,h.own0,h.ownS,h.chan,h.dist,h.ows,h.low,h.tr⟩
 .rcases h.zero with h0|⟨k,c',vs,m,B,a,b,A,⟨d,C,e,f⟩|⟨d,e⟩⟩;{exact .inl yEj}
  .have r:k≠j:=by
    rintro rfl;rw[n]at a;cases a;exact E m d
   exact .inr ⟨k,c',vs,m,B,a,b,A,.inl ⟨xAh,C,e,xAh⟩⟩
  exact .inr ⟨k,c',vs,m,B,a,b,A,.inr ⟨xAh,e⟩⟩
 .have⟨q,y,h1,h2,h3⟩:=h.old i hi D;exact⟨q,y,h1,xAh,h3⟩
 by_cases r:k=j
 .subst r;rw[n]at hLk;cases hLk;rcases h.snd k c _ _ n with⟨C,h1,h2,h3,h4,h5,h6,h7,h8⟩|⟨q,y,h1,h2,h3,h4⟩;{rw[o]at h1;cases h1;exact .inl ⟨s,o,h2,h3,h4,h5,h6,h7,.inr ⟨v,z,w,HQ G,h6,h7,F⟩⟩};rw[o]at h1;cases h1
 have e:(gs.setIfInBounds (n0+j) (parked s.g #[scase c v z] .send))[n0+k]?=gs[n0+k]?:=Bj BS;exact zya
theorem PhI.close(h:PhI P Low n0 t₀ x ow comps gs w t){s:SC}{g':AX}{n r B:Nat}(m:x.L[j]?=some (c,[],false))(hs:comps[n0+j]?=some (.inl s))(V:w.heap[c]?=some (.chan 0 #[] false r B false))(hq:QuitsIn P n g')
  (Q:gs'.size=gs.size) (hJ:gs'[n0+j]?=some g') (M:∀l,l≠0->l≠n0+j->gs'[l]?=gs[l]?)
  (h0:(gs'[0]?=gs[0]?/\∀z,gs[0]?≠some (parked x.g #[rcase c z] (.recv true)))\/∃z,gs[0]?=some (parked x.g #[rcase c z] (.recv true))/\gs'[0]?=some {parked x.g #[rcase c z] (.recv true) with status:=.running}) (fn:FuncId) (pos:String):
  PhI P Low n0 t₀ x ow (comps.set (n0+j) (.inr n)) gs' (w.shut c r B false) (t++MemOp.ofEvents (n0+j) fn pos #[⟨.obj c,false,true⟩,⟨.obj c,true,true⟩]):=by
 have hn:=h.pos;have⟨hj,ad,R⟩:=h.lt m;have J:FR (λb=>b=c) w (w.shut c r B false):=FR.put w c _;have T:KW c (w.shut c r B false):=⟨r,B,heap_put V⟩;have⟨N,hO⟩:=h.part (S:=λb=>b=c) (k:=0) (by rintro b rfl;exact(h.chan j _ _ _ m).1);have Y:∀b,x.O b->b<w.heap.size/\¬b=c:=λb F=>⟨h.ows.up _ _ (h.own0 b F),λe=>(h.chan j _ _ _ m).2 (e ▸ F)⟩;have U:(w.shut c r B false).heap.size=w.heap.size:=by simp[World.shut]
 have⟨aa,ab⟩:=h.tr.close (k:=n0+j) (c:=c) h.ows ⟨j,hj,rfl⟩ fn pos;refine⟨h.pos,by rw[Q];simpa using h.len,xBi,by rw[Q];exact h.siz,h.run,h.keep.chg J Y N,?_,λi hi Z=>?_,λk A X seen E=>?_,h.own0,λk C v b F=>?_,h.chan,h.dist,by rw[U];exact h.ows,by rw[U];exact h.low,aa⟩
 .rcases h.zero with W|⟨k,A,vs,D,I,a,b,G,⟨d,C,e,f⟩|⟨d,e⟩⟩;{rcases h0 with⟨h0,_⟩|⟨z,h0,_⟩;{exact .inl (by rwa[h0])};rw[W]at h0;have:=congrArg Goroutine.status (Ek h0);rw[h.run]at this;cases this};{by_cases o:k=j;{subst o;rw[m]at a;cases a;rcases h0 with⟨_,h0⟩|⟨z,h0,K⟩;{exact absurd d (h0 D)};rw[d]at h0;have hz:D=z:=(by have:=congrArg Goroutine.offers (Ek h0);simp[parked,rcase]at this;exact this);subst hz;exact .inr ⟨k,c,[],D,I,m,b,G,.inr ⟨K,T⟩⟩};have H:A≠c:=λe=>o (h.dist k j c _ _ _ _ (e ▸ a) m);rcases h0 with⟨h0,_⟩|⟨z,h0,K⟩;{exact .inr ⟨k,A,vs,D,I,a,b,G,.inl ⟨by rwa[h0],C,xBp,by rwa[M _ BS BS]⟩⟩};rw[d]at h0;have:=congrArg Goroutine.offers (Ek h0);simp[parked,rcase]at this;exact absurd this.1 H};rcases h0 with⟨h0,_⟩|⟨z,h0,K⟩
  .have o:k≠j:=by
    rintro rfl;rw[m]at a;cases a;obtain⟨a1,a2,e⟩:=e;rw[V]at e;cases e
   have H:¬A=c:=λe=>o (h.dist k j c _ _ _ _ (e ▸ a) m)
   exact .inr ⟨k,A,vs,D,I,a,b,G,.inr ⟨by rwa[h0],e.chg J H⟩⟩
  rw[d]at h0;have:=congrArg Goroutine.status (Ek h0);simp[parked]at this
 .have⟨q,y,h1,h2,h3⟩:=h.old i hi Z;exact⟨q,y,xBp,by rwa[M _ BS BS],Z9 h3 (L6 BS)⟩
 .by_cases o:k=j;{subst o;rw[m]at E;cases E;exact .inr ⟨n,g',GY R,hJ,hq,rfl,T,ab,λe=>by cases e⟩};exact(h.snd k A X seen E).turn (EP BS) (M _ BS BS) J (λC v=>hO (n0+k) C.O BS (h.ownS k C v)) N (λe=>o (h.dist k j c _ _ _ _ (e ▸ E) m)) (λop ac e=>absurd e (L6 BS op ac))
 by_cases o:k=j
 .subst o;rw[GY R]at v;cases v
 rw[EP BS]at v;exact h.ownS k C v b F
theorem PhI.slipOld(h:PhI P Low n0 t₀ x ow comps gs w t){i:Nat}{es:Array Event}(hi:0<i)(U:i<n0)(I:∀e∈es,Event.mute e=true)(R:QuitsD P k (deafBehind (Deaf t i) es) y')(fn:FuncId)(pos:String):
  PhI P Low n0 t₀ x ow (comps.set i (.inr k)) (gs.setIfInBounds i y') w (t++MemOp.ofEvents i fn pos es):=by
 have V:=h.siz;have W:=h.len;have K:Tr Low n0 x.L.l t₀ (t++MemOp.ofEvents i fn pos es) ow:=h.tr.silent λop r=>by obtain⟨e,C,rfl⟩:=Go.Conc.mem_ofEvents r;exact⟨touch_mute (I e C),λo=>by rcases o with o|o<;>(simp at o;omega)⟩
 have⟨F,H⟩:=h.part (S:=λ_=>False) (k:=0) (λb s=>s.elim);refine⟨h.pos,xBc,xBi,xBd,h.run,h.keep,?_,λl G N=>?_,λl n E seen M=>?_,h.own0,λl g m b s=>?_,h.chan,h.dist,h.ows,h.low,K⟩
 .rcases h.zero with h0|⟨k,n,vs,B,A,a,b,v,⟨d,g,e,f⟩|⟨d,e⟩⟩;{exact .inl yEj};{exact .inr ⟨k,n,vs,B,A,a,b,v,.inl ⟨xAh,g,xBp,xAh⟩⟩};exact .inr ⟨k,n,vs,B,A,a,b,v,.inr ⟨xAh,e⟩⟩
 .by_cases D:i=l;{subst D;exact⟨k,y',GY BS,HQ BS,by rwa[Deaf_own]⟩};have⟨q,y,Q,J,T⟩:=h.old l G N;exact⟨q,y,xBp,xAh,Z9 T (L6 BS)⟩
 .exact(h.snd l n E seen M).turn (EP BS) (Bj BS) (FR.same w) (λg m=>H (n0+l) g.O (by have:=h.pos;omega) (h.ownS l g m)) F id (λop r e=>absurd e (L6 BS op r))
 rw[EP BS]at m;exact h.ownS l g m b s
theorem PhI.slipJ(h:PhI P Low n0 t₀ x ow comps gs w t){q:Nat}{e:Nat × List AW × Bool}(U:x.L[j]?=some e)(D:comps[n0+j]?=some (.inr q))(R:QuitsIn P k y'):
  PhI P Low n0 t₀ x ow (comps.set (n0+j) (.inr k)) (gs.setIfInBounds (n0+j) y') w t:=by
 have Z:=h.pos;have⟨Y,W,I⟩:=h.lt U;refine⟨h.pos,xBc,xBi,xBd,h.run,h.keep,?_,λl M Q=>?_,λl o C seen F=>?_,h.own0,λl B v b V=>?_,h.chan,h.dist,h.ows,h.low,h.tr⟩
 .rcases h.zero with h0|⟨k,o,vs,K,G,a,b,E,⟨d,B,e,f⟩|⟨d,e⟩⟩;{exact .inl yEj}
  .have X:k≠j:=by
    rintro rfl;rw[D]at e;cases e
   exact .inr ⟨k,o,vs,K,G,a,b,E,.inl ⟨xAh,B,xBp,xAh⟩⟩
  exact .inr ⟨k,o,vs,K,G,a,b,E,.inr ⟨xAh,e⟩⟩
 .have⟨q,y,g,m,n⟩:=h.old l M Q;exact⟨q,y,xBp,xAh,n⟩
 .by_cases A:l=j;{subst A;rcases h.snd l o C seen F with⟨s,g,_⟩|⟨q,y,g,m,n,r⟩;{rw[D]at g;cases g};exact .inr ⟨k,y',GY I,HQ W,R,r⟩};have J:(comps.set (n0+j) (.inr k))[n0+l]?=comps[n0+l]?:=EP BS;have H:(gs.setIfInBounds (n0+j) y')[n0+l]?=gs[n0+l]?:=Bj BS;rcases h.snd l o C seen F with⟨s,g,m,n,r,O,N,S,T⟩|⟨q,y,g,m,n,r⟩;{exact .inl ⟨s,by rwa[J],m,n,r,O,N,S,by rwa[H]⟩};exact .inr ⟨q,y,by rwa[J],by rwa[H],n,r⟩
 by_cases A:l=j
 .subst A;rw[GY I]at v;cases v
 rw[EP BS]at v;exact h.ownS l B v b V
end
section
variable {c i j l:Nat}{y:AX}
variable {P : AY}{Low : Nat}{n0 : Nat}{t₀ : Trace}{x : RC}{ow : Nat -> Nat -> Prop}{comps : List (SC ⊕ Nat)}{gs : Array AX}{w : AU}{t : Trace}{sl : Option (Nat × Nat)}
def Reach(P:AY)(Stop:AX->World->Prop)(tape:Nat->Question->Nat)(gs:Array AX)(w:AU)(sl:Option (Nat × Nat))(t:Trace):Prop:=
 ∃N gs' g' w' b a,runNT P N (crowd gs w sl) t=(.next (crowd gs' w' b),a)/\M3 P gs' a g'/\w'.tape=tape/\Stop g' w'
theorem Reach.step{Stop:AX->World->Prop}{tape:Nat->Question->Nat}{a:Array AX}{d:AU}{b:Option (Nat × Nat)}{ops:Trace}(f:stepT P (crowd gs w sl)=(.next (crowd a d b),ops))(h:Reach P Stop tape a d b (t++ops)):Reach P Stop tape gs w sl t:=by obtain⟨N,gs',g',w',e,g,o,hF,n,m⟩:=h;exact⟨N+1,gs',g',w',e,g,by simp only[runNT,f];exact o,hF,n,m⟩
theorem GK(h:y.status=.running\/y.status=.finished):y.status≠.blocked:=by rcases h with h|h<;>rw[h]<;>simp
theorem PhI.offT(h:PhI P Low n0 t₀ x ow comps gs w t){vs:List AW}{D:Bool}(F:x.L[j]?=some (c,vs,D))(hl:l≠n0+j)(a:gs[l]?=some y):offersAt y c true=[]:=by
 have G:=(BF.1 a).1;rcases LI l with rfl|r
 .rcases h.zero with b|⟨k,n,vs,z,C,_,_,_,⟨b,_⟩|⟨b,_⟩⟩;{rw[b]at a;cases a;exact offersAt_of_not_blocked (GK (.inl h.run)) _ _};{rw[b]at a;cases a;exact offersAt_parked_recv' _ _ _ _ _};rw[b]at a;cases a;exact offersAt_of_not_blocked (GK (.inl rfl)) _ _
 rcases GI l n0 with o|o
 .have⟨q,y',_,d,g⟩:=h.old l r o;rw[a]at d;cases d;exact offersAt_of_not_blocked (GK g.status) _ _
 obtain⟨k,rfl⟩:∃k,l=n0+k:=⟨l - n0,BS⟩;have B:k<x.L.length:=xBw;obtain⟨⟨n,A,seen⟩,m⟩:∃e,x.L[k]?=some e:=⟨_,E7 B⟩;rcases h.snd k n A seen m with⟨s,_,_,_,_,E,_,H,f|⟨v,z,C,f,_⟩⟩|⟨q,y',_,d,g,_⟩
 .rw[f]at a;cases a;exact offersAt_of_not_blocked (GK (.inl E.inv.1)) _ _
 .rw[f]at a;cases a;rw[offersAt_parked_send,BQ];rintro rfl;exact hl (by rw[h.dist k j _ _ _ _ _ m F])
 rw[d]at a;cases a;exact offersAt_of_not_blocked (GK g.status) _ _
theorem PhI.offF(h:PhI P Low n0 t₀ x ow comps gs w t)(hl:l≠0)(a:gs[l]?=some y):offersAt y c false=[]:=by
 have B:=(BF.1 a).1;rcases GI l n0 with g|g
 .have⟨q,y',_,b,f⟩:=h.old l BS g;rw[a]at b;cases b;exact offersAt_of_not_blocked (GK f.status) _ _
 obtain⟨k,rfl⟩:∃k,l=n0+k:=⟨l - n0,BS⟩;have n:k<x.L.length:=xBw;obtain⟨⟨r,m,seen⟩,o⟩:∃e,x.L[k]?=some e:=⟨_,E7 n⟩;rcases h.snd k r m seen o with⟨s,_,_,_,_,A,_,D,d|⟨v,z,C,d,_⟩⟩|⟨q,y',_,b,f,_⟩
 .rw[d]at a;cases a;exact offersAt_of_not_blocked (GK (.inl A.inv.1)) _ _
 .rw[d]at a;cases a;exact offersAt_parked_send' _ _ _ _ _ _
 rw[b]at a;cases a;exact offersAt_of_not_blocked (GK f.status) _ _
theorem RE{b:Bool}(h:∀l y,l≠i->gs[l]?=some y->offersAt y c b=[]):partners (gs.setIfInBounds i ph) c b=[]:=by
 refine partners_nil λl y e=>?_;rcases getElem?_stand gs i l y e with⟨_,rfl⟩|⟨d,a⟩
 .exact offersAt_ph _ _
 exact h l y d a
theorem di{b:Bool}{g:AX}(f:j≠i)(d:gs[j]?=some g)(m:offersAt g c b=[0])(h:∀l y,l≠i->l≠j->gs[l]?=some y->offersAt y c b=[]):partners (gs.setIfInBounds i ph) c b=[(j,0)]:=by
 rw[partners_one (stand_get f d) λl y n o=>?_,m]
 .rfl
 rcases getElem?_stand gs i l y o with⟨_,rfl⟩|⟨e,a⟩
 .exact offersAt_ph _ _
 exact h l y e n a
theorem PhI.ends(h:PhI P Low n0 t₀ x ow comps gs w t)(F:∀e∈x.L,e.2.2=true):M3 P gs t x.g:=by
 have A:∀(j c:Nat)(vs:List AW)(b:Bool),x.L[j]?=some (c,vs,b)->b=true:=λj c vs b H=>F _ (LK H);have hS:∀j,j<x.L.length->∃q y,gs[n0+j]?=some y/\QuitsIn P q y/\KO t (n0+j):=by intro j n;obtain⟨⟨C,D,seen⟩,B⟩:∃e,x.L[j]?=some e:=⟨_,E7 n⟩;obtain rfl:=A _ _ _ _ B;rcases h.snd j C D true B with⟨s,_,_,_,e,_⟩|⟨q,y',_,d,m,_,_,_,G⟩;{cases e};exact⟨q,y',d,m,G rfl⟩
 refine⟨?_,?_,h.tr.past λj n=>(hS j n).choose_spec.choose_spec.2.2⟩
 .rcases h.zero with E|⟨k,C,vs,z,I,a,_⟩;{exact E};have:=A _ _ _ _ a;cases this
 .have v:∀i,0<i->i<gs.size->∃q,∀y,gs[i]?=some y->QuitsD P q (Deaf t i) y:=by
   intro i hi o;rcases GI i n0 with r|r
   .have⟨q,y',_,d,m⟩:=h.old i hi r
    exact⟨q,λy f=>by rw[f]at d;cases d;exact m⟩
   .obtain⟨k,rfl⟩:∃k,i=n0+k:=⟨i - n0,BS⟩
    have⟨q,y',d,m,_⟩:=hS k xBw;exact⟨q,λy f=>by rw[f]at d;cases d;rw[h.tr.hearS _ r];exact QuitsD.of_quitsIn m⟩
  classical
  refine⟨λi=>if hi:0<i/\i<gs.size then(v i hi.1 hi.2).choose else 0,λi y hi f=>?_,λj n=>h.tr.hearS j xBw⟩;have o:=(BF.1 f).1;simp only[hi,o,and_self,dite_true];exact(v i hi o).choose_spec y f
end
section
variable {P : AY}{Low : Nat}{n0 : Nat}{t₀ : Trace}{Stop : AX -> AU -> Prop}
theorem Aua{g:AX}{cs:Array CommCase}{sh:CommShape}(hr:g.status=.running)(w:AU):stepG P true {parked g cs sh with status:=.running} w=stepG P true g w:=by rw[stepG_tries];congr 1;obtain⟨a,b,c,d⟩:=g;simp at hr;subst hr;rfl
def pushes{t:Trace}{fn e:FuncId}{pos d:String}{k l:Nat}{a b:MemAct}:t++((MemOp.ofEvents k fn pos #[]).push {g:=k,fn,pos,act:=a}).push {g:=l,fn:=e,pos:=d,act:=b}=t++#[{g:=k,fn,pos,act:=a},{g:=l,fn:=e,pos:=d,act:=b}]:=by rw[ofEvents_eq];simp
def Ot(k:Nat)(fn:FuncId)(pos:String):MemOp.ofEvents k fn pos #[]=#[]:=by rw[ofEvents_eq];simp
theorem phase(tape:Nat->Question->Nat){x:RC}(h:FP P Low Stop x):
  ∀ow comps gs w t sl,PhI P Low n0 t₀ x ow comps gs w t->w.tape=tape->Reach P Stop tape gs w sl t:=by
 refine h (λx=>∀ow comps gs w t sl,PhI P Low n0 t₀ x ow comps gs w t->w.tape=tape->Reach P Stop tape gs w sl t) ?_;intro x hx ow comps gs w t sl f ai;have main:∀comps,Acc (RL (NI P Low)) comps->∀(n:Nat)(gs:Array AX)(ow:Nat->Nat->Prop)(w:AU)(t:Trace)(sl:Option (Nat × Nat)),cnt gs.toList=n->PhI P Low n0 t₀ x ow comps gs w t->w.tape=tape->Reach P Stop tape gs w sl t:=by
  intro comps aX;induction aX with
  |intro comps _ au=>
  intro n;induction n using Nat.strongRecOn with
  |ind n aK=>
  intro gs ow w t sl aI f ai;by_cases aB:(∀e∈x.L,e.2.2=true)/\∀aE,Keep Low x.O x.w aE->Stop x.g aE;{exact⟨0,gs,x.g,w,sl,t,rfl,f.ends aB.1,ai,aB.2 w f.keep⟩};have hn:=f.pos
  obtain⟨i,y,d,X,hi,Q,N⟩:=crowd_pick (P:=P) (w:=w) (sl:=sl) (λg A=>by
   have⟨i,hi⟩:=Array.mem_iff_getElem?.1 A
   exact(f.qt i g hi).awake) f.runs
  replace f:=f.at d;have T:(w.at d).tape=tape:=ai;generalize w.at d=w1 at f N T;clear ai;have al:=(BF.1 hi).1;have aP:∀(l:Nat)(g:AX),(gs.setIfInBounds l g).size=gs.size:=λl g=>by simp
  have closed:∀(j c:Nat)(vs:List AW)(z:AW)(q:Nat),i=0->x.L[j]?=some (c,vs,false)->stepG P true y w1=.comm x.g #[rcase c z] true (.recv true) w1 #[]->comps[n0+j]?=some (.inr q)->
    ((∀v vs',vs=v::vs'->∀ow comps gs w t sl,PhI P Low n0 t₀ ⟨x.O,x.L.set j (c,vs',false),Conc.served x.g (recvd true v true),w1⟩ ow comps gs w t->w.tape=tape->Reach P Stop tape gs w sl t)/\
     (vs=[]->∀ow comps gs w t sl,PhI P Low n0 t₀ ⟨x.O,x.L.set j (c,[],true),Conc.served x.g (recvd true z false),w1⟩ ow comps gs w t->w.tape=tape->Reach P Stop tape gs w sl t))->Reach P Stop tape gs w sl t:=by
   intro j c vs z q hi0 m e1 hq J;subst hi0;have aj:vs=[]/\KW c w1/\∀y',gs[n0+j]?=some y'->y'.status≠.blocked:=by
    rcases f.snd j c vs false m with⟨s',r,_⟩|⟨q,y,r,C,R,h4,h5,_⟩
    .rw[hq]at r;cases r
    .exact⟨h4,h5,λy' hy'=>by rw[hy']at C;cases C;exact GK R.status⟩
   obtain⟨aj,⟨a,b,B⟩,aZ⟩:=aj;have K:partners (gs.setIfInBounds 0 ph) c true=[]:=RE λl y' hl hy'=>by
    by_cases S:l=n0+j
    .subst S;exact offersAt_of_not_blocked (aZ y' hy') _ _
    .exact f.offT m S hy'
   have o:=crowd_recv_closed (P:=P) (sl:=X) (i:=0) hi (show stepG P (0==0) y w1=_ from e1) B K;rw[finishComm_recv,Ot,Array.empty_append]at o;refine Reach.step (N.tr o) (J.2 aj _ _ _ _ _ _ (f.seen m hq rfl (aP _ _) (by simp[al]) (λl hl=>Bj hl) _ _) T)
  rcases LI i with rfl|aH
  .rcases f.zero with E|⟨j,c,vs,z,F,m,H,I,⟨K,_⟩|⟨K,aR⟩⟩
   ·(obtain rfl:y=x.g:=by rw[E]at hi;exact(Ek hi).symm);rcases hx.2 with a5|ad|⟨c,B,ak⟩|⟨j,c,vs,z,m,aa⟩;{exact absurd a5 aB};{have⟨g',w',es,e1,hr,hS,J⟩:=ad w1 f.keep;have V:=f.own0' E hr hS x.g.frame.fn x.g.frame.place;have o:=runT_crowd_go (P:=P) (sl:=X) (i:=0) E (show stepG P (0==0) x.g w1=_ from e1);rw[Y0 λl y' hl hy'=>(V.qt l y' yFa).woken]at o;exact Reach.step (N.tr o) (J _ _ _ _ _ _ V (hS.tape.tr T))};{have⟨g',child,vs,e1,hr,aa,M,hS,J⟩:=ak w1 f.keep;have o:=runT_crowd_spawn (P:=P) (sl:=X) (i:=0) E (show stepG P (0==0) x.g w1=_ from e1);refine Reach.step (N.tr o) ?_;rw[pushes];exact J _ _ _ _ _ _ (f.spawn E B hr M hS _ _ _ _) T};have⟨e1,J⟩:=aa w1 f.keep;have ba:=(f.lt m).2.1;rcases f.snd j c vs false m with⟨s,U,s2,s3,_,cZ,hk,M,A|⟨v,W,F,A,H,an,I⟩⟩|⟨q,y,r,C,R,h4,h5,_⟩
    .obtain⟨a,b,B⟩:=M;have K:partners (gs.setIfInBounds 0 ph) c true=[]:=RE λl y' hl hy'=>by
      by_cases S:l=n0+j
      .subst S;rw[A]at hy';cases hy';exact offersAt_of_not_blocked (GK (.inl cZ.inv.1)) _ _
      .exact f.offT m S hy'
     have o:=crowd_waits (P:=P) (sl:=X) (i:=0) E (show stepG P (0==0) x.g w1=_ from e1) (λcc af=>by
      have:cc=rcase c z:=by simpa using af
      subst this
      exact ways_recv_none B K)
     refine Reach.step (N.tr o) ?_;rw[Ot,Array.append_empty];refine aK _ ?_ _ _ _ _ _ rfl (f.park0 m U A e1) T;rw[<-aI,Array.toList_setIfInBounds];exact TQ (x:=x.g) (by simpa using E) (GK (.inl f.run)) rfl
    .obtain⟨a,b,B⟩:=M;have a8:∃vs',s.vs=v::vs'/\(∃z,stepG P false s.g w1=.comm s.g #[scase s.c v z] true .send w1 #[])/\FA P Low ⟨s.c,s.O,vs',Conc.served s.g AQ,w1⟩:=by
      subst s2;rcases cZ.inv.2 with ar|⟨v',vs',e,ax⟩|⟨_,_,ay⟩
      .have⟨g',w',es,G,_⟩:=ar F H an
       rw[I]at G;cases G
      .have⟨⟨z2,G⟩,_⟩:=ax F H an
       rw[I]at G;have:v'=v:=by
        have:=congrArg (λs=>match s with|GStep.comm _ cs _ _ _ _=>cs.toList.map CommCase.send|_=>[]) G
        simp[scase]at this;exact this.symm
       subst this;exact⟨vs',e,(ax w1 hk ⟨a,b,B⟩).1,(ax w1 hk ⟨a,b,B⟩).2⟩
      .obtain⟨a',b',ao⟩:=an
       have⟨g',n',G,_⟩:=ay F a' b' H ao;rw[I]at G;cases G
     obtain⟨vs',aj,⟨z2,G⟩,a7⟩:=a8;have mG:=s3.tr aj;have aG:n0+j≠0:=BS
     have K:=di aG A (by rw[offersAt_parked_send,BR rfl]) λl y' hl S hy'=>f.offT m S hy'
     have o:=crowd_recv_meets (P:=P) (sl:=X) (i:=0) E (show stepG P (0==0) x.g w1=_ from e1) B aG A K;rw[finishComm_recv,finishComm_send,Ot,Array.empty_append]at o;refine Reach.step (N.tr o) (J.1 v vs' mG _ _ _ _ _ _ (f.meet (mG ▸ m) U a7 rfl BU ?_ ?_ ?_ ?_) T)
     .simp[al]
     .rw[Bj BS];exact HQ ba
     .intro l r C;rw[Bj r,Bj C]
     .intro op ah
      simp at ah;rcases ah with rfl|rfl|rfl|rfl<;>simp[MemAct.touch?]
    exact closed j c vs z q rfl m e1 r J
   {rw[K]at hi;have:=Ek hi;rw[<-this]at Q;cases Q};have aM:y={parked x.g #[rcase c z] (.recv true) with status:=.running}:=(by rw[K]at hi;exact(Ek hi).symm);have aQ:stepG P true y w1=stepG P true x.g w1:=(by rw[aM];exact Aua f.run w1);(obtain⟨q,hq⟩:∃q,comps[n0+j]?=some (.inr q):=by rcases f.snd j c vs false m with⟨s,U,s2,s3,_,cZ,hk,⟨a,b,M⟩,_⟩|⟨q,y,r,_⟩;{obtain⟨a',b',ao⟩:=aR;rw[M]at ao;cases ao};exact⟨q,r⟩);rcases hx.2 with⟨av,_⟩|ad|⟨c,B,ak⟩|⟨j',Y,vs',W,ae,aa⟩;{have:=av _ (LK m);cases this};{have⟨g',w',es,e1,_⟩:=ad F H;rw[I]at e1;cases e1};{have⟨g',child,vs,e1,_⟩:=ak F H;rw[I]at e1;cases e1};have G:=(aa F H).1;(rw[I]at G;have:c=Y/\z=W:=by have:=congrArg (λs=>match s with|GStep.comm _ cs _ _ _ _=>cs.toList|_=>[]) G;simp[rcase]at this;exact this);obtain⟨rfl,rfl⟩:=this;obtain rfl:=f.dist j j' c _ _ _ _ m ae;rw[m]at ae;cases ae;have⟨e1,J⟩:=aa w1 f.keep;exact closed j c vs z q rfl m (aQ.tr e1) hq J
  have hi0:(i==0)=false:=by simp;omega
  rcases GI i n0 with aw|aw
  .have⟨q,y',r,C,R⟩:=f.old i aH aw;rw[hi]at C;cases C;cases q with
   |zero=>rw[R.1]at Q;cases Q
   |succ k=>rcases R with⟨hf,_⟩|⟨_,y',es,hm,aC,az⟩;{rw[hf]at Q;cases Q};have V:=f.slipOld aH aw hm az y.frame.fn y.frame.place;have o:=runT_crowd_go (P:=P) (sl:=X) (i:=i) hi (by rw[hi0];exact aC w1);rw[Y0 λl y' hl hy'=>(V.qt l y' yFa).woken]at o;exact Reach.step (N.tr o) (au _ ⟨i,.inr (k+1),.inr k,r,EO k,rfl⟩ _ _ _ _ _ _ rfl V T)
  obtain⟨j,rfl⟩:∃j,i=n0+j:=⟨i - n0,BS⟩;have hj:j<x.L.length:=by have:=f.siz;omega
  obtain⟨⟨c,ap,seen⟩,m⟩:∃e,x.L[j]?=some e:=⟨_,E7 hj⟩;rcases f.snd j c ap seen m with⟨s,U,s2,s3,s4,cZ,hk,M,A|⟨v,W,F,A,H,an,I⟩⟩|⟨q,y',r,C,R,h4,h5,_⟩
  ·(obtain rfl:y=s.g:=by rw[A]at hi;exact(Ek hi).symm);subst s2 s4;rcases cZ.inv.2 with ad|⟨v,vs',e,hv⟩|⟨aO,aU,ay⟩;{have⟨g',w',es,e1,hr,hS,J⟩:=ad w1 hk M;have V:=f.ownJ hj U A hr hS J s.g.frame.fn s.g.frame.place;have o:=runT_crowd_go (P:=P) (sl:=X) (i:=n0+j) A yGa;rw[Y0 λl y' hl hy'=>(V.qt l y' yFa).woken]at o;refine Reach.step (N.tr o) (au _ ⟨n0+j,_,_,U,?_,rfl⟩ _ _ _ _ _ _ rfl V (hS.tape.tr T));refine⟨w1,hk,M,.inl ⟨g',w',es,e1,M.chg hS.chg λhb=>?_,rfl⟩⟩;have:=f.ows.apart _ _ _ (f.chan j _ _ _ m).1 (f.ownS j s U _ hb);omega}
   .have⟨⟨z,e1⟩,J⟩:=hv w1 hk M;have⟨a,b,B⟩:=id M;by_cases aD:∃W,gs[0]?=some (parked x.g #[rcase s.c W] (.recv true));{obtain⟨W,ac⟩:=aD;have K:partners (gs.setIfInBounds (n0+j) ph) s.c false=[(0,0)]:=di BS ac (by rw[offersAt_parked_recv,BR rfl]) λl y' hl ag hy'=>f.offF ag hy';have o:=crowd_send_meets (P:=P) (sl:=X) (i:=n0+j) (j:=0) A yGa B BS ac K;rw[finishComm_recv,finishComm_send,Ot,Array.empty_append]at o;rcases f.zero with E|⟨k,Y,aL,z2,F,ab,H,I,⟨D,_⟩|⟨D,_⟩⟩;{rw[E]at ac;have:=congrArg Goroutine.status (Ek ac);rw[f.run]at this;cases this};{rw[D]at ac;have a3:Y=s.c/\z2=W:=(by have:=congrArg Goroutine.offers (Ek ac);simp[parked,rcase]at this;exact this);obtain⟨rfl,rfl⟩:=a3;obtain rfl:=f.dist k j s.c _ _ _ _ ab m;rw[m]at ab;cases ab;rcases hx.2 with⟨av,_⟩|ad|⟨c,B,ak⟩|⟨j',Y,bc,z3,ae,aa⟩;{have:=av _ (LK m);cases this};{have⟨g',w',es,e1,_⟩:=ad F H;rw[I]at e1;cases e1};{have⟨g',child,vs,e1,_⟩:=ak F H;rw[I]at e1;cases e1};have G:=(aa F H).1;(rw[I]at G;have:s.c=Y:=by have:=congrArg (λs=>match s with|GStep.comm _ cs _ _ _ _=>cs.toList|_=>[]) G;simp[rcase]at this;exact this.1);subst this;obtain rfl:=f.dist k j' s.c _ _ _ _ m ae;rw[m]at ae;cases ae;have mG:=s3.tr e;refine Reach.step (N.tr o) ((aa w1 f.keep).2.1 v vs' mG _ _ _ _ _ _ (f.meet (mG ▸ m) U J rfl BU ?_ ?_ ?_ ?_) T);{rw[Bj BS];exact HQ BS};{exact HQ (by simpa using al)};{intro l r C;rw[Bj C,Bj r]};intro op ah;simp at ah;rcases ah with rfl|rfl|rfl|rfl<;>simp[MemAct.touch?]};rw[D]at ac;have:=congrArg Goroutine.status (Ek ac);simp[parked]at this};have aJ:∀W,gs[0]?≠some (parked x.g #[rcase s.c W] (.recv true)):=λW Z=>aD ⟨W,Z⟩;have K:partners (gs.setIfInBounds (n0+j) ph) s.c false=[]:=RE λl y' hl hy'=>by rcases LI l with rfl|ag;{rcases f.zero with E|⟨k,Y,aL,z2,F,ab,H,I,⟨D,_⟩|⟨D,_⟩⟩;{rw[E]at hy';cases hy';exact offersAt_of_not_blocked (GK (.inl f.run)) _ _};{rw[D]at hy';cases hy';rw[offersAt_parked_recv,BQ];rintro rfl;exact aJ _ D};rw[D]at hy';cases hy';exact offersAt_of_not_blocked (GK (.inl rfl)) _ _};exact f.offF BS hy'
    have o:=crowd_waits (P:=P) (sl:=X) (i:=n0+j) A yGa (λcc af=>by
     have:cc=scase s.c v z:=by simpa using af
     subst this
     exact ways_send_none B BU K)
    refine Reach.step (N.tr o) ?_;rw[Ot,Array.append_empty];refine aK _ ?_ _ _ _ _ _ rfl (f.parkJ m U A aJ e1) T;rw[<-aI,Array.toList_setIfInBounds];exact TQ (x:=s.g) (by simpa using A) (GK (.inl cZ.inv.1)) rfl
   have⟨a,b,B⟩:=id M;have⟨g',nq,e1,hr,hq⟩:=ay w1 a b hk B;have ou:=s3.tr aO;subst ou;have o:=runT_crowd_go (P:=P) (sl:=X) (i:=n0+j) A yGa;have hC:FR (λb=>b=s.c) w1 (w1.shut s.c a b false):=FR.put w1 s.c _;have a9:∀l y',l≠0->l≠n0+j->gs[l]?=some y'->woken P s.g g' (w1.shut s.c a b false) y'=y':=(by intro l y' ag S hy';have bb:=(BF.1 hy').1;rcases GI l n0 with aF|aF;{have⟨q,y2,_,C,R⟩:=f.old l BS aF;rw[hy']at C;cases C;exact woken_quitsD R};obtain⟨k,rfl⟩:∃k,l=n0+k:=⟨l - n0,BS⟩;have aN:k<x.L.length:=(by have:=f.siz;omega);obtain⟨⟨Y,ap,seen⟩,ab⟩:∃e,x.L[k]?=some e:=⟨_,E7 aN⟩;rcases f.snd k Y ap seen ab with⟨s',_,_,_,_,xO,_,ar,r|⟨v,z,F,r,_⟩⟩|⟨q,y2,_,C,R,_⟩;{rw[r]at hy';cases hy';exact woken_run xO.inv.1};{rw[r]at hy';cases hy';have⟨a2,b2,aA⟩:=ar.chg hC (λe=>S (by rw[f.dist k j s.c _ _ _ _ (e ▸ ab) m]));exact woken_send_open _ _ aA};rw[C]at hy';cases hy';exact woken_quitsD (QuitsD.of_quitsIn R));have aY:((gs.map (woken P s.g g' (w1.shut s.c a b false))).setIfInBounds (n0+j) g').size=gs.size:=BU;refine Reach.step (N.tr o) (au _ ⟨n0+j,.inl s,.inr nq,U,trivial,rfl⟩ _ _ _ _ _ _ rfl (f.close m U B hq aY ?_ ?_ ?_ _ _) T);{exact HQ (by simpa using al)}
   .intro l ag S;rw[Bj S,MV];cases aT:gs[l]? with
    |none=>rfl|some y'=>simp[a9 l y' ag S aT]
   rw[Bj BS,MV];rcases f.zero with E|⟨k,Y,aL,z2,F,ab,H,I,⟨D,_⟩|⟨D,_⟩⟩;{refine .inl ⟨by rw[E];simp[woken_run f.run],λz Z=>?_⟩;rw[E]at Z;have:=congrArg Goroutine.status (Ek Z);rw[f.run]at this;cases this};{by_cases af:Y=s.c;{subst af;(refine .inr ⟨z2,D,?_⟩;rw[D];simp only[MW,E9];have aV:(mayWake P s.g && g'.status !=.blocked && g'.status !=.waiting)=true:=by rw[aU,hr];rfl);unfold Conc.woken;rw[BR aV];exact again_recv_closed (heap_put B)};refine .inl ⟨?_,λz Z=>?_⟩;{rw[D];(simp only[MW,E9];have aS:Zc Y w1:=by rcases f.qt 0 _ D with h|⟨g2,c2,z3,sh,e,a6⟩|⟨g2,c2,v2,z3,sh,e,_⟩;{rcases h with h|h<;>cases h};{have:=congrArg Goroutine.offers e;simp[parked,rcase]at this;rwa[this.1.1]};have:=congrArg Goroutine.offers e;simp[parked,rcase,scase]at this);have⟨a2,b2,aA⟩:=aS.chg hC af;exact woken_recv_open _ _ aA};rw[D]at Z;have:=congrArg Goroutine.offers (Ek Z);simp[parked,rcase]at this;exact af this.1};refine .inl ⟨by rw[D];simp only[MW,E9];exact woken_run rfl,λz Z=>?_⟩;rw[D]at Z;have:=congrArg Goroutine.status (Ek Z);simp[parked]at this
  {rw[A]at hi;have:=Ek hi;rw[<-this]at Q;cases Q};rw[hi]at C;cases C;cases q with
  |zero=>rw[show y.status=.finished from R]at Q;cases Q
  |succ k=>rcases R with hf|⟨_,y',aC,az⟩;{rw[hf]at Q;cases Q};have V:=f.slipJ m r az;have o:=runT_crowd_go (P:=P) (sl:=X) (i:=n0+j) hi (by rw[hi0];exact aC w1);rw[Y0 λl y' hl hy'=>(V.qt l y' yFa).woken]at o;refine Reach.step (N.tr o) ?_;rw[Ot,Array.append_empty];exact au _ ⟨n0+j,.inr (k+1),.inr k,r,EO k,rfl⟩ _ _ _ _ _ _ rfl V T
 exact main comps f.acc _ gs ow w t sl rfl f ai
end
