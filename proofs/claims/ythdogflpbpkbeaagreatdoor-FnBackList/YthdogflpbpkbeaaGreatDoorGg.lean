import Derived.Test.YthdogflpbpkbeaaGreatDoorGC
import Derived.RangeFuncNested
import Derived.RangeFuncBound
import Derived.Shelf.Abstract
import Derived.Test.YthdogflpbpkbeaaGreatDoorM40
set_option linter.defProp false
namespace Go.Proofs.YthdogflpbpkbeaaGreatDoor
open Stil Go.RowKit Go.Sort Go.BigFrame
variable {B l m n₀ o p:Nat}{F:Fence}{P:AY}{W W' X Y Z w':AU}{r:ε}{v:AW}
def Og(w:AU):Nat->Nat->Stil.DK->Prop
 |b,o,⟨k,e,kids⟩=>w.cell? (AK b o)=some (AB k)/\w.cell? (AK b (o+1))=some (AB e.op)/\
   (∃f,w.cell? (AK b (o+2))=some f/\Aq w f e.args)/\
   ∃a cap,w.cell? (AK b (o+3))=some (AE a kids.length cap)/\∀i(h:i<kids.length),∃c d,a=some (AK c d)/\c<w.heap.size/\
    (have:=M3 (DY h);Og w c (d+i*4) kids[i])
def Ni (w:AU)(b o:Nat)(k:Int)(e:Stil.Elem)(kids:Ξ):Og w b o ⟨k,e,kids⟩=(w.cell? (AK b o)=some (AB k)/\w.cell? (AK b (o+1))=some (AB e.op)/\
   (∃f,w.cell? (AK b (o+2))=some f/\Aq w f e.args)/\
   ∃a cap,w.cell? (AK b (o+3))=some (AE a kids.length cap)/\∀i (h:i<kids.length),∃c d,a=some (AK c d)/\c<w.heap.size/\Og w c (d+i*4) kids[i]):=by rw[Og]
def Eg(w:AU)(v:AW)(ns:Ξ):Prop:=∃a cap,v=AE a ns.length cap/\∀i(h:i<ns.length),∃b o,a=some (AK b o)/\b<w.heap.size/\Og w b (o+i*4) ns[i]
def kG (w:AU)(b o:Nat)(k:Int)(e:Stil.Elem)(kids:Ξ):Og w b o ⟨k,e,kids⟩↔(w.cell? (AK b o)=some (AB k)/\w.cell? (AK b (o+1))=some (AB e.op)/\
   (∃i,w.cell? (AK b (o+2))=some i/\Aq w i e.args)/\∃j,w.cell? (AK b (o+3))=some j/\Eg w j kids):=by
 rw[Ni];constructor
 .rintro⟨d,f,g,a,cap,c,h⟩;exact⟨d,f,g,_,c,a,cap,rfl,h⟩
 rintro⟨d,f,g,_,c,a,cap,rfl,h⟩;exact⟨d,f,g,a,cap,c,h⟩
def zv0{p:Prop}(h:p:=by have⟨b',o',ha,hl',hn⟩:=h6 i hi;exact⟨b',o',ha,DO hl' hb.size,ih _ (DY hi) b' _ hn hl'⟩):p:=h
theorem Og.below{w:AU}(hb:AO w w'):∀(n:Stil.DK)(b o:Nat),Og w b o n->b<w.heap.size->Og w' b o n:=by
 intro n;induction n using Gp with
 |h k e kids ih=>intro b o h c;rw[Ni]at h⊢;obtain⟨d,f,⟨s,j,q⟩,a,cap,g,h6⟩:=h;refine⟨?_,?_,⟨s,?_,q.below hb⟩,a,cap,?_,λi hi=>?_⟩;{rwa[hb.cell (p:=(AK b o)) c]};{rwa[hb.cell (p:=(AK b (o+1))) c]};{rwa[hb.cell (p:=(AK b (o+2))) c]};{rwa[hb.cell (p:=(AK b (o+3))) c]};exact zv0
theorem Eg.below{w:AU}{ns:Ξ}(h:Eg w v ns)(c:AO w w'):Eg w' v ns:=by obtain⟨a,cap,j,f⟩:=h;refine⟨a,cap,j,λi hi=>?_⟩;have⟨b,o,e,d,g⟩:=f i hi;exact⟨b,o,e,DO d c.size,Og.below c _ _ _ g d⟩
def Z8(w:AU)(b o:Nat)(e:Stil.Elem):Prop:=w.cell? (AK b o)=some (AB e.op)/\∃a,w.cell? (AK b (o+1))=some a/\Aq w a e.args
def F9(w:AU)(v:AW)(es:Ω):Prop:=∃a cap,v=AE a es.length cap/\∀i(h:i<es.length),∃b o,a=some (AK b o)/\b<w.heap.size/\Z8 w b (o+i*2) es[i]
theorem Z8.below{w:AU}{b:Nat}{e:Stil.Elem}(h:Z8 w b o e)(a:AO w w')(c:b<w.heap.size):Z8 w' b o e:=by obtain⟨d,g,f,i⟩:=h;exact⟨by rwa[a.cell (p:=(AK b o)) c],g,by rwa[a.cell (p:=(AK b (o+1))) c],i.below a⟩
def zIa{p:Prop}(h:p:=by obtain⟨a,cap,hv,hc⟩:=h;refine⟨a,cap,hv,λi hi=>?_⟩;have⟨b,o,ha,hlt,hn⟩:=hc i hi;exact⟨b,o,ha,DO hlt hb.size,hn.below hb hlt⟩):p:=h
def F9.below{w:AU}{es:Ω}(h:F9 w v es)(hb:AO w w'):F9 w' v es:=by exact zIa
def Pg(w:AU):Nat->Nat->Stil.DL->Prop
 |b,o,⟨n,f,kids⟩=>Og w b o n/\(∃e,w.cell? (AK b (o+4))=some e/\F9 w e f)/\
   ∃a cap,w.cell? (AK b (o+5))=some (AE a kids.length cap)/\∀i(h:i<kids.length),∃c d,a=some (AK c d)/\c<w.heap.size/\
    (have:=M3 (DY h);Pg w c (d+i*6) kids[i])
def N2 (w:AU)(b o:Nat)(n:Stil.DK)(d:Ω)(kids:Ek):Pg w b o ⟨n,d,kids⟩=(Og w b o n/\(∃f,w.cell? (AK b (o+4))=some f/\F9 w f d)/\
   ∃a cap,w.cell? (AK b (o+5))=some (AE a kids.length cap)/\∀i (h:i<kids.length),∃c e,a=some (AK c e)/\c<w.heap.size/\Pg w c (e+i*6) kids[i]):=by rw[Pg]
def Dj(w:AU)(v:AW)(l:Ek):Prop:=∃a cap,v=AE a l.length cap/\∀i(h:i<l.length),∃b o,a=some (AK b o)/\b<w.heap.size/\Pg w b (o+i*6) l[i]
theorem Pg.below{w:AU}(hb:AO w w'):∀(n:Stil.DL)(b o:Nat),Pg w b o n->b<w.heap.size->Pg w' b o n:=by
 intro n;induction n using Fz with
 |h n k kids ih=>intro b o h c;rw[N2]at h⊢;obtain⟨d,⟨f,j,e⟩,a,cap,g,h6⟩:=h;refine⟨Og.below hb _ _ _ d c,⟨f,?_,e.below hb⟩,a,cap,?_,λi hi=>?_⟩;{rwa[hb.cell (p:=(AK b (o+4))) c]};{rwa[hb.cell (p:=(AK b (o+5))) c]};exact zv0
theorem Dj.below{w:AU}{ns:Ek}(h:Dj w v ns)(c:AO w w'):Dj w' v ns:=by obtain⟨a,cap,j,f⟩:=h;refine⟨a,cap,j,λi hi=>?_⟩;have⟨b,o,e,d,g⟩:=f i hi;exact⟨b,o,e,DO d c.size,Pg.below c _ _ _ g d⟩
def Og.open{w:AU}{b:Nat}{n:Stil.DK}(h:Og w b o n):w.cell? (AK b o)=some (AB n.kind)/\w.cell? (AK b (o+1))=some (AB n.O.op)/\
   ∃a c,w.cell? (AK b (o+2))=some a/\w.cell? (AK b (o+3))=some c/\Aq w a n.O.args/\Eg w c n.K:=by obtain⟨k,e,kids⟩:=n;have⟨f,g,⟨a,i,d⟩,c,q,j⟩:=(kG _ _ _ _ _ _).1 h;exact⟨f,g,a,c,i,q,d,j⟩
def Pg.open{w:AU}{b:Nat}{n:Stil.DL}(h:Pg w b o n):Og w b o n.N/\∃c d,w.cell? (AK b (o+4))=some c/\w.cell? (AK b (o+5))=some d/\F9 w c n.C/\Dj w d n.K:=by obtain⟨n,k,kids⟩:=n;rw[N2]at h;obtain⟨f,⟨c,g,e⟩,a,cap,j,i⟩:=h;exact⟨f,c,_,g,j,e,a,cap,rfl,i⟩
theorem Ec{b c:Nat}(h:c≠b):(W.setCell ⟨b,o,none⟩ v).cell? ⟨c,p,none⟩=W.cell? ⟨c,p,none⟩:=by simp[go_sem]
theorem Cm{b:Nat}(h:p≠o):(W.setCell ⟨b,o,none⟩ v).cell? ⟨b,p,none⟩=W.cell? ⟨b,p,none⟩:=by simp[go_sem]
theorem Ff{b:Nat}{u:AW}(h:W.cell? ⟨b,o,none⟩=some u):(W.setCell ⟨b,o,none⟩ v).cell? ⟨b,o,none⟩=some v:=by simp[go_sem,h]
def Jl(W:AU)(p:Ab)(v:AW):W.heap.size<=(W.setCell p v).heap.size:=((BP 0 W).s (EH _) v).size
structure Kz(C:Nat->Prop)(W W':AU):Prop where
 size:W.heap.size<=W'.heap.size
 same:∀(k:Nat)(o:Obj),¬C k->W.heap[k]?=some o->o.isCells=true->W'.heap[k]?=some o
def Kz.refl(C:Φ)(W:AU):Kz C W W:=⟨DN _,λ_ _ _ h _=>h⟩
theorem Kz.trans{C:Φ}(h:Kz C X Y)(k:Kz C Y Z):Kz C X Z:=⟨DU h.size k.size,λi o a hi b=>k.same i o a (h.same i o a hi b) b⟩
abbrev Kz.tr:=@Kz.trans
def Kz.of_below{C:Φ}(h:AO W W'):Kz C W W':=
 ⟨h.size,λk _ _ a _=>(h.block k (BF.1 a).1).tr a⟩
def Kz.drew{C:Φ}(h:Kz C W W'):Kz C W W'.drew:=⟨h.size,h.same⟩
def Kz.call{C:Φ}(h:Kz C W X)(a:AO X Y):Kz C W Y:=h.tr (.of_below a)
def Kz.set{C:Φ}{b:Nat}(h:Kz C W W')(c:C b)(v:AW):Kz C W (W'.setCell (AK b o) v):=
 h.tr ⟨by simp,λk _ a d _=>(Below.heap_setCell W' (AK b o) v k (λe=>a (by rwa[e]))).tr d⟩
theorem Kz.putObj{C:Φ}(W:AU){o:Obj}(c:Obj)(h:W.heap[l]?=some o)(d:o.isCells=false):Kz C W (W.putObj l c):=
 ⟨by simp[World.putObj],λk p _ a b=>by
  by_cases e:k=l
  .subst e
   rw[h]at a;cases a;rw[d]at b;cases b
  .rw[World.putObj_heap_other e];exact a⟩
theorem Kz.cell{C:Φ}(h:Kz C W W'){b:Nat}(e:¬C b)(a:W.cell? (AK b o)=some v):W'.cell? (AK b o)=some v:=by have⟨p,c,d⟩:=cells_of_cell a;exact(BE (w:=W) ((h.same b p e c d).tr c.symm)).tr a
theorem Bd{b:Nat}(h:W.cell? (AK b o)=some v):b<W.heap.size:=by have⟨p,a,_⟩:=cells_of_cell h;exact(BF.1 a).1
def Kept(n₀:Nat)(C:Φ)(W W':AU):Prop:=Below n₀ W W'/\Kz C W W'
def Kept.t{C:Φ}(h:Kept n₀ C X Y)(k:Kept n₀ C Y Z):Kept n₀ C X Z:=⟨h.1.tr k.1,h.2.tr k.2⟩
def Kept.b{C:Φ}{w:AU}(d:n₀<=w.heap.size)(W:AU)(l:Nat)(o a:Obj)(hl:w.heap.size<=l)(h:W.heap[l]?=some o)(c:o.isCells=false)(e:o.isWalk=false):Kept n₀ C W (W.putObj l a):=
 ⟨belowK_b d W l o a hl h c e,Kz.putObj W a h c⟩
def Kept.refl(n₀:Nat)(C:Φ)(W:AU):Kept n₀ C W W:=⟨BP _ _,Kz.refl _ _⟩
def Kept.of_below{C:Φ}(a:n₀<=W.heap.size)(h:AO W W'):Kept n₀ C W W':=⟨h.mo a,.of_below h⟩
structure Uk(w:AU)(P:Stil.DK->Prop) where
 N:Stil.DK
 av:AW
 kv:AW
 hav:Aq w av N.O.args
 hkv:Eg w kv N.K
 mem:P N
structure Ro(w:AU)(P:Stil.DL->Prop) where
 A:Stil.DL
 av:AW
 nv:AW
 cv:AW
 kv:AW
 hav:Aq w av A.N.O.args
 hnv:Eg w nv A.N.K
 hcv:F9 w cv A.C
 hkv:Dj w kv A.K
 mem:P A
def P6(w:AU)(C:Φ)(W:AU)(v:AW)(l:Ξ):Prop:=∃a cap,v=AE a l.length cap/\∀i(h:i<l.length),∃b o,a=some (AK b o)/\¬C b/\
 ∃c d,W.cell? (AK b (o+i*4))=some (AB l[i].kind)/\W.cell? (AK b (o+i*4+1))=some (AB l[i].O.op)/\W.cell? (AK b (o+i*4+2))=some c/\W.cell? (AK b (o+i*4+3))=some d/\Aq w c l[i].O.args/\Eg w d l[i].K
theorem P6.keep{w:AU}{C:Φ}{l:Ξ}(h:P6 w C W v l)(d:Kz C W W'):P6 w C W' v l:=by obtain⟨a,cap,k,s⟩:=h;refine⟨a,cap,k,λi hi=>?_⟩;have⟨b,o,q,c,t,n,j,u,x,g,e,f⟩:=s i hi;exact⟨b,o,q,c,t,n,d.cell c j,d.cell c u,d.cell c x,d.cell c g,e,f⟩
theorem P6.of_at{w:AU}{C:Φ}{l:Ξ}(h:Eg w v l)(c:AO w W)(n:∀k,C k->w.heap.size<=k):P6 w C W v l:=by obtain⟨a,cap,u,s⟩:=h;refine⟨a,cap,u,λi hi=>?_⟩;have⟨b,o,q,d,e⟩:=s i hi;have⟨t,z,y,x,A,j,f,g⟩:=e.open;exact⟨b,o,q,λh=>by have:=n b h;omega,y,x,(c.cell (p:=(AK b _)) d).tr t,(c.cell (p:=(AK b _)) d).tr z,(c.cell (p:=(AK b _)) d).tr A,(c.cell (p:=(AK b _)) d).tr j,f,g⟩
def Ol(w:AU)(C:Φ)(W:AU)(v:AW)(l:Ek):Prop:=∃a cap,v=AE a l.length cap/\∀i(h:i<l.length),∃b o,a=some (AK b o)/\¬C b/\
 ∃d e c f,W.cell? (AK b (o+i*6))=some (AB l[i].N.kind)/\W.cell? (AK b (o+i*6+1))=some (AB l[i].N.O.op)/\W.cell? (AK b (o+i*6+2))=some d/\W.cell? (AK b (o+i*6+3))=some e/\
  W.cell? (AK b (o+i*6+4))=some c/\W.cell? (AK b (o+i*6+5))=some f/\Aq w d l[i].N.O.args/\Eg w e l[i].N.K/\F9 w c l[i].C/\Dj w f l[i].K
theorem Ol.keep{w:AU}{C:Φ}{l:Ek}(h:Ol w C W v l)(d:Kz C W W'):Ol w C W' v l:=by obtain⟨a,cap,t,n⟩:=h;refine⟨a,cap,t,λi hi=>?_⟩;have⟨b,o,k,c,y,j,q,u,s,z,A,g,e,x,f⟩:=n i hi;exact⟨b,o,k,c,y,j,q,u,d.cell c s,d.cell c z,d.cell c A,d.cell c g,d.cell c e,d.cell c x,f⟩
theorem Ol.of_at{w:AU}{C:Φ}{l:Ek}(h:Dj w v l)(c:AO w W)(s:∀k,C k->w.heap.size<=k):Ol w C W v l:=by obtain⟨a,cap,D,u⟩:=h;refine⟨a,cap,D,λi hi=>?_⟩;have⟨b,o,t,d,f⟩:=u i hi;have⟨z,A,G,e,H,x,y⟩:=f.open;have⟨E,J,I,q,K,n,g,j⟩:=z.open;exact⟨b,o,t,λh=>by have:=s b h;omega,I,q,A,G,(c.cell (p:=(AK b _)) d).tr E,(c.cell (p:=(AK b _)) d).tr J,(c.cell (p:=(AK b _)) d).tr K,(c.cell (p:=(AK b _)) d).tr n,(c.cell (p:=(AK b _)) d).tr e,(c.cell (p:=(AK b _)) d).tr H,g,j,x,y⟩
def Xu(h:KeepsFrom B W X)(p:Ab)(v:AW):KeepsFrom B W (X.setCell p v):=h.trans ((KeepsOthers.setCell X p v).from B)
def Ru(h:KeepsFrom B W X)(a:AO X Y):KeepsFrom B W Y:=h.trans ⟨a.size,λk _ _ b _=>(a.block k (BF.1 b).1).trans b⟩
def Rt(h:KeepsFrom B W X):KeepsFrom B W X.drew:=h.trans ((KeepsOthers.drew X).from B)
def Oi(h:KeepsFrom B W X)(o:Obj):KeepsFrom B W (X.alloc o):=h.trans ((KeepsOthers.alloc X o).from B)
theorem SQ{C:Φ}{b:Nat}(h:Kept n₀ C W X)(a:n₀<=b)(c:C b)(v:AW):Kept n₀ C W (X.setCell (AK b o) v):=⟨h.1.s (p:=(AK b o)) a v,h.2.set c v⟩
def Xd{C:Φ}(h:Kept n₀ C W X)(a:n₀<=W.heap.size)(b:AO X Y):Kept n₀ C W Y:=h.t (Kept.of_below (DU a h.2.size) b)
def Azy{C:Φ}(h:Kept n₀ C W X):Kept n₀ C W X.drew:=⟨h.1.drew,h.2.drew⟩
theorem Pz{b:Nat}(ob:Obj)(h:W.cell? (AK b o)=some v):(W.alloc ob).cell? (AK b o)=some v:=((Aa W ob).cell (p:=(AK b o)) (Bd h)).tr h
theorem Qh{b:Nat}(ob:Obj)(h:W.cell? (AK b o)=some v)(a:W.frozen? (AK b o)=false):(W.alloc ob).frozen? (AK b o)=false:=((Aa W ob).frozen (p:=(AK b o)) (Bd h)).tr a
def share{T G:Prop}(a:T->G)(b:T):G:=a b
theorem room_of_none(hd:F.depth=none)(k:Nat):F.room k:=λd h=>by rw[hd]at h;cases h
def RoundIn.anyDepth(hd:F.depth=none){m':Nat}{f:FuncId}{tmps:δ}{assign body:Code}{w:AU}{R:Ending->World->Prop}
  (h:RoundIn F m P l f tmps assign body w R):RoundIn F m' P l f tmps assign body w R:=⟨h.1,λc a _=>h.2 c a (room_of_none hd _)⟩
def YieldAt.anyDepth(hd:F.depth=none)(m':Nat){args:δ}{R:Ending->World->Prop}(h:YieldAt F m P l args W R):YieldAt F m' P l args W R:=by obtain⟨a,d,assign,body,c,b⟩:=h;exact⟨a,d,assign,body,c,RoundIn.anyDepth hd b⟩
def Z7(w:AU)(b o:Nat)(i:Stil.Ar):Prop:=w.cell? (AK b o)=some (AB i.code)/\w.cell? (AK b (o+1))=some (AB i.O.op)/\∃a,w.cell? (AK b (o+2))=some a/\Aq w a i.O.args
def Eo(w:AU)(v:AW)(l:AP):Prop:=∃a cap,v=AE a l.length cap/\∀i(h:i<l.length),∃b o,a=some (AK b o)/\b<w.heap.size/\Z7 w b (o+i*3) l[i]
theorem Z7.below{w:AU}{b:Nat}{i:Stil.Ar}(h:Z7 w b o i)(a:AO w w')(c:b<w.heap.size):Z7 w' b o i:=by obtain⟨e,f,g,j,d⟩:=h;exact⟨by rwa[a.cell (p:=(AK b o)) c],by rwa[a.cell (p:=(AK b (o+1))) c],g,by rwa[a.cell (p:=(AK b (o+2))) c],d.below a⟩
def Eo.below{w:AU}{l:AP}(h:Eo w v l)(hb:AO w w'):Eo w' v l:=by exact zIa
def GY(w:AU)(b:Nat)(s:Stil.Pt):Prop:=b<w.heap.size/\w.cell? (AK b 0)=some (AB s.bits)/\w.cell? (AK b 1)=some (AB s.forks)/\w.cell? (AK b 2)=some (.bool s.seen)/\w.cell? (AK b 3)=some (.bool s.coil)/\
 w.frozen? (AK b 0)=false/\w.frozen? (AK b 1)=false/\w.frozen? (AK b 2)=false/\w.frozen? (AK b 3)=false
theorem GY.below{w:AU}{b:Nat}{s:Stil.Pt}(h:GY w b s)(a:AO w w'):GY w' b s:=by
 obtain⟨c,e,f,i,d,k,j,n,g⟩:=h
 exact⟨DO c a.size,(a.cell (p:=(AK b 0)) c).tr e,(a.cell (p:=(AK b 1)) c).tr f,(a.cell (p:=(AK b 2)) c).tr i,(a.cell (p:=(AK b 3)) c).tr d,
  (a.frozen (p:=(AK b 0)) c).tr k,(a.frozen (p:=(AK b 1)) c).tr j,(a.frozen (p:=(AK b 2)) c).tr n,(a.frozen (p:=(AK b 3)) c).tr g⟩
theorem Me{p q:Ab}:(W.setCell p v).frozen? q=W.frozen? q:=xAa
theorem GY.stored{w:AU}{b:Nat}{s:Stil.Pt}(h:GY w b s)(t:Stil.Pt):GY (Sx4 w b 0 (AB t.bits) (AB t.forks) (.bool t.seen) (.bool t.coil)) b t:=by
 obtain⟨f,c,d,e,a,j,i,k,g⟩:=h;refine⟨?_,?_,?_,?_,?_,?_,?_,?_,?_⟩
 .exact DO f (DU (Jl _ _ _) (DU (Jl _ _ _) (DU (Jl _ _ _) (Jl _ _ _))))
 .exact(Cm BS).tr ((Cm BS).tr ((Cm BS).tr (Ff c)))
 .exact(Cm BS).tr ((Cm BS).tr (Ff ((Cm BS).tr d)))
 .exact(Cm BS).tr (Ff ((Cm BS).tr ((Cm BS).tr e)))
 .exact Ff ((Cm BS).tr ((Cm BS).tr ((Cm BS).tr a)))
 all_goals exact Me.tr (Me.tr (Me.tr (Me.tr CB)))
theorem VQ{w:AU}{b:Nat}{ds:Ψ}(h:∀i(h:i<ds.length),Jr w b (o+i*3) ds[i]):∀j u,(Di ds)[j]?=some u->w.cell? (((AK b o):Ab).add j)=some u:=by
 intro j u hu;have x:=(BO.1 hu).1;have z:(Di ds).length=ds.length*3:=by
  clear hu x h;induction ds with
  |nil=>rfl|cons d r q=>have e:Di (d::r)=AB d.kind::AB d.n::AB d.p::Di r:=rfl;rw[e];simp[q];omega
 have hi:j / 3<ds.length:=BS;have⟨f,c,g⟩:=Sr ds (j / 3) hi;have⟨y,s,k⟩:=h (j / 3) hi;rw[Addr.add_lit];have t:j=j / 3*3\/j=j / 3*3+1\/j=j / 3*3+2:=BS;rcases t with e|e|e
 .rw[e]at hu;rw[hu]at f;have a:o+j=o+j / 3*3:=BS;rw[a,y];exact f.symm
 .rw[e]at hu;rw[hu]at c;have a:o+j=o+j / 3*3+1:=BS;rw[a,s];exact c.symm
 rw[e]at hu;rw[hu]at g;have a:o+j=o+j / 3*3+2:=BS;rw[a,k];exact g.symm
def Gt{w:AU}{b:Nat}(h:w.grownBy w' r)(c:b<w.heap.size)(a:r≠some b):w'.cell? (AK b o)=w.cell? (AK b o):=by simp only[World.cell?,h.block b c (λe=>a e.symm)]
def Ns{w:AU}{b:Nat}(h:w.grownBy w' r)(c:b<w.heap.size)(a:r≠some b):w'.frozen? (AK b o)=w.frozen? (AK b o):=by simp only[World.frozen?,h.block b c (λe=>a e.symm)]
theorem VX{w:AU}{base s n:Nat}{e:AZ}{xs:Θ}(h:w.ownsRow base e s v n xs):∃a cap,v=.slice a n cap:=by
 rcases h.2 with⟨b,d⟩|⟨g,c,cur,b,_⟩
 .exact⟨none,0,by rw[b,d]⟩
 exact⟨_,_,b⟩
