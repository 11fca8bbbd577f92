import Derived.Test.YtgnkpbhknkinoaaGreatDoorGC
import Derived.RangeFuncNested
import Derived.RangeFuncBound
import Derived.Shelf.Abstract
import Derived.Test.YtgnkpbhknkinoaaGreatDoorM33
set_option linter.defProp false
set_option maxHeartbeats 4000000
set_option maxRecDepth 100000
namespace Go.Proofs.YtgnkpbhknkinoaaGreatDoor
open Tryz Stil Go.RowKit Go.Sort Go.BigFrame
section
variable {B l m n₀ o p:Nat}{F:Fence}{P:AY}{W W' X Y Z w':AU}{r:Option Nat}{v:AW}
def P5(w:AU):Nat->Nat->Stil.DI->Prop
 |b,o,⟨k,e,kids⟩=>w.cell? (AK b o)=some (AB k)/\w.cell? (AK b (o+1))=some (AB e.op)/\
   (∃d,w.cell? (AK b (o+2))=some d/\Ar w d e.args)/\
   ∃a cap,w.cell? (AK b (o+3))=some (AE a kids.length cap)/\∀i(h:i<kids.length),∃c f,a=some (AK c f)/\c<w.heap.size/\
    (have:=MS (DW h);P5 w c (f+i*4) kids[i])
def OB (w:AU)(b o:Nat)(k:Int)(e:Stil.Elem)(kids:List Stil.DI):P5 w b o ⟨k,e,kids⟩=(w.cell? (AK b o)=some (AB k)/\w.cell? (AK b (o+1))=some (AB e.op)/\
   (∃d,w.cell? (AK b (o+2))=some d/\Ar w d e.args)/\
   ∃a cap,w.cell? (AK b (o+3))=some (AE a kids.length cap)/\∀i (h:i<kids.length),∃c f,a=some (AK c f)/\c<w.heap.size/\P5 w c (f+i*4) kids[i]):=by rw[P5]
def Fe(w:AU)(v:AW)(ns:List Stil.DI):Prop:=∃a cap,v=AE a ns.length cap/\∀i(h:i<ns.length),∃b o,a=some (AK b o)/\b<w.heap.size/\P5 w b (o+i*4) ns[i]
def gv (w:AU)(b o:Nat)(k:Int)(e:Stil.Elem)(kids:List Stil.DI):P5 w b o ⟨k,e,kids⟩↔(w.cell? (AK b o)=some (AB k)/\w.cell? (AK b (o+1))=some (AB e.op)/\
   (∃i,w.cell? (AK b (o+2))=some i/\Ar w i e.args)/\∃j,w.cell? (AK b (o+3))=some j/\Fe w j kids):=by
 rw[OB];constructor
 .rintro⟨c,d,h,a,cap,f,g⟩;exact⟨c,d,h,_,f,a,cap,rfl,g⟩
 rintro⟨c,d,h,_,f,a,cap,rfl,g⟩;exact⟨c,d,h,a,cap,f,g⟩
def zu0{p:Prop}(h:p:=by have⟨b',o',ha,hl',hn⟩:=h6 i hi;exact⟨b',o',ha,DL hl' hb.size,ih _ (DW hi) b' _ hn hl'⟩):p:=h
theorem P5.below{w:AU}(hb:AO w w'):∀(n:Stil.DI)(b o:Nat),P5 w b o n->b<w.heap.size->P5 w' b o n:=by
 intro n;induction n using Gs with
 |h k e kids ih=>intro b o h c;rw[OB]at h⊢;obtain⟨g,d,⟨j,q,s⟩,a,cap,f,h6⟩:=h;refine⟨?_,?_,⟨j,?_,s.below hb⟩,a,cap,?_,λi hi=>?_⟩;{rwa[hb.cell (p:=(AK b o)) c]};{rwa[hb.cell (p:=(AK b (o+1))) c]};{rwa[hb.cell (p:=(AK b (o+2))) c]};{rwa[hb.cell (p:=(AK b (o+3))) c]};exact zu0
theorem Fe.below{w:AU}{ns:List Stil.DI}(h:Fe w v ns)(d:AO w w'):Fe w' v ns:=by obtain⟨a,cap,g,j⟩:=h;refine⟨a,cap,g,λi hi=>?_⟩;have⟨b,o,f,c,e⟩:=j i hi;exact⟨b,o,f,DL c d.size,P5.below d _ _ _ e c⟩
def JU(w:AU)(b o:Nat)(e:Stil.Elem):Prop:=w.cell? (AK b o)=some (AB e.op)/\∃a,w.cell? (AK b (o+1))=some a/\Ar w a e.args
def G6(w:AU)(v:AW)(es:List Stil.Elem):Prop:=∃a cap,v=AE a es.length cap/\∀i(h:i<es.length),∃b o,a=some (AK b o)/\b<w.heap.size/\JU w b (o+i*2) es[i]
theorem JU.below{w:AU}{b:Nat}{e:Stil.Elem}(h:JU w b o e)(a:AO w w')(c:b<w.heap.size):JU w' b o e:=by obtain⟨d,g,f,i⟩:=h;exact⟨by rwa[a.cell (p:=(AK b o)) c],g,by rwa[a.cell (p:=(AK b (o+1))) c],i.below a⟩
def zGa{p:Prop}(h:p:=by obtain⟨a,cap,hv,hc⟩:=h;refine⟨a,cap,hv,λi hi=>?_⟩;have⟨b,o,ha,hlt,hn⟩:=hc i hi;exact⟨b,o,ha,DL hlt hb.size,hn.below hb hlt⟩):p:=h
def G6.below{w:AU}{es:List Stil.Elem}(h:G6 w v es)(hb:AO w w'):G6 w' v es:=by exact zGa
def Ri(w:AU):Nat->Nat->Stil.DJ->Prop
 |b,o,⟨n,f,kids⟩=>P5 w b o n/\(∃d,w.cell? (AK b (o+4))=some d/\G6 w d f)/\
   ∃a cap,w.cell? (AK b (o+5))=some (AE a kids.length cap)/\∀i(h:i<kids.length),∃c e,a=some (AK c e)/\c<w.heap.size/\
    (have:=MS (DW h);Ri w c (e+i*6) kids[i])
def Ni (w:AU)(b o:Nat)(n:Stil.DI)(f:List Stil.Elem)(kids:List Stil.DJ):Ri w b o ⟨n,f,kids⟩=(P5 w b o n/\(∃d,w.cell? (AK b (o+4))=some d/\G6 w d f)/\
   ∃a cap,w.cell? (AK b (o+5))=some (AE a kids.length cap)/\∀i (h:i<kids.length),∃c e,a=some (AK c e)/\c<w.heap.size/\Ri w c (e+i*6) kids[i]):=by rw[Ri]
def Dx(w:AU)(v:AW)(l:List Stil.DJ):Prop:=∃a cap,v=AE a l.length cap/\∀i(h:i<l.length),∃b o,a=some (AK b o)/\b<w.heap.size/\Ri w b (o+i*6) l[i]
theorem Ri.below{w:AU}(hb:AO w w'):∀(n:Stil.DJ)(b o:Nat),Ri w b o n->b<w.heap.size->Ri w' b o n:=by
 intro n;induction n using Fv with
 |h n k kids ih=>intro b o h c;rw[Ni]at h⊢;obtain⟨d,⟨e,f,g⟩,a,cap,j,h6⟩:=h;refine⟨P5.below hb _ _ _ d c,⟨e,?_,g.below hb⟩,a,cap,?_,λi hi=>?_⟩;{rwa[hb.cell (p:=(AK b (o+4))) c]};{rwa[hb.cell (p:=(AK b (o+5))) c]};exact zu0
theorem Dx.below{w:AU}{ns:List Stil.DJ}(h:Dx w v ns)(d:AO w w'):Dx w' v ns:=by obtain⟨a,cap,g,j⟩:=h;refine⟨a,cap,g,λi hi=>?_⟩;have⟨b,o,f,c,e⟩:=j i hi;exact⟨b,o,f,DL c d.size,Ri.below d _ _ _ e c⟩
def P5.open{w:AU}{b:Nat}{n:Stil.DI}(h:P5 w b o n):w.cell? (AK b o)=some (AB n.kind)/\w.cell? (AK b (o+1))=some (AB n.O.op)/\
   ∃a c,w.cell? (AK b (o+2))=some a/\w.cell? (AK b (o+3))=some c/\Ar w a n.O.args/\Fe w c n.K:=by obtain⟨k,e,kids⟩:=n;have⟨d,f,⟨a,j,g⟩,c,i,q⟩:=(gv _ _ _ _ _ _).1 h;exact⟨d,f,a,c,j,i,g,q⟩
def Ri.open{w:AU}{b:Nat}{n:Stil.DJ}(h:Ri w b o n):P5 w b o n.N/\∃c d,w.cell? (AK b (o+4))=some c/\w.cell? (AK b (o+5))=some d/\G6 w c n.C/\Dx w d n.K:=by obtain⟨n,k,kids⟩:=n;rw[Ni]at h;obtain⟨e,⟨c,j,g⟩,a,cap,i,f⟩:=h;exact⟨e,c,_,j,i,g,a,cap,rfl,f⟩
theorem Ea{b c:Nat}(h:c≠b):(W.setCell ⟨b,o,none⟩ v).cell? ⟨c,p,none⟩=W.cell? ⟨c,p,none⟩:=by simp[go_sem]
theorem Ci{b:Nat}(h:p≠o):(W.setCell ⟨b,o,none⟩ v).cell? ⟨b,p,none⟩=W.cell? ⟨b,p,none⟩:=by simp[go_sem]
theorem E8{b:Nat}{u:AW}(h:W.cell? ⟨b,o,none⟩=some u):(W.setCell ⟨b,o,none⟩ v).cell? ⟨b,o,none⟩=some v:=by simp[go_sem,h]
def Jh(W:AU)(p:Ab)(v:AW):W.heap.size<=(W.setCell p v).heap.size:=((BP 0 W).s (EI _) v).size
structure Kw(C:Nat->Prop)(W W':AU):Prop where
 size:W.heap.size<=W'.heap.size
 same:∀(k:Nat)(o:Obj),¬C k->W.heap[k]?=some o->o.isCells=true->W'.heap[k]?=some o
def Kw.refl(C:Nat->Prop)(W:AU):Kw C W W:=⟨DK _,λ_ _ _ h _=>h⟩
theorem Kw.trans{C:Nat->Prop}(h:Kw C X Y)(k:Kw C Y Z):Kw C X Z:=⟨DR h.size k.size,λi o b hi a=>k.same i o b (h.same i o b hi a) a⟩
abbrev Kw.tr:=@Kw.trans
def Kw.of_below{C:Nat->Prop}(h:AO W W'):Kw C W W':=
 ⟨h.size,λk _ _ a _=>(h.block k (BF.1 a).1).tr a⟩
def Kw.drew{C:Nat->Prop}(h:Kw C W W'):Kw C W W'.drew:=⟨h.size,h.same⟩
def Kw.call{C:Nat->Prop}(h:Kw C W X)(a:AO X Y):Kw C W Y:=h.tr (.of_below a)
def Kw.set{C:Nat->Prop}{b:Nat}(h:Kw C W W')(a:C b)(v:AW):Kw C W (W'.setCell (AK b o) v):=
 h.tr ⟨by simp,λk _ d c _=>(Below.heap_setCell W' (AK b o) v k (λe=>d (by rwa[e]))).tr c⟩
theorem Kw.putObj{C:Nat->Prop}(W:AU){o:Obj}(d:Obj)(h:W.heap[l]?=some o)(c:o.isCells=false):Kw C W (W.putObj l d):=
 ⟨by simp[World.putObj],λk p _ a b=>by
  by_cases e:k=l
  .subst e
   rw[h]at a;cases a;rw[c]at b;cases b
  .rw[World.putObj_heap_other e];exact a⟩
theorem Kw.cell{C:Nat->Prop}(h:Kw C W W'){b:Nat}(d:¬C b)(c:W.cell? (AK b o)=some v):W'.cell? (AK b o)=some v:=by have⟨p,a,e⟩:=cells_of_cell c;exact(BE (w:=W) ((h.same b p d a e).tr a.symm)).tr c
theorem Ba{b:Nat}(h:W.cell? (AK b o)=some v):b<W.heap.size:=by have⟨p,a,_⟩:=cells_of_cell h;exact(BF.1 a).1
def Kept(n₀:Nat)(C:Nat->Prop)(W W':AU):Prop:=Below n₀ W W'/\Kw C W W'
def Kept.t{C:Nat->Prop}(h:Kept n₀ C X Y)(k:Kept n₀ C Y Z):Kept n₀ C X Z:=⟨h.1.tr k.1,h.2.tr k.2⟩
def Kept.b{C:Nat->Prop}{w:AU}(d:n₀<=w.heap.size)(W:AU)(l:Nat)(o a:Obj)(hl:w.heap.size<=l)(h:W.heap[l]?=some o)(c:o.isCells=false)(e:o.isWalk=false):Kept n₀ C W (W.putObj l a):=
 ⟨belowK_b d W l o a hl h c e,Kw.putObj W a h c⟩
def Kept.refl(n₀:Nat)(C:Nat->Prop)(W:AU):Kept n₀ C W W:=⟨BP _ _,Kw.refl _ _⟩
def Kept.of_below{C:Nat->Prop}(a:n₀<=W.heap.size)(h:AO W W'):Kept n₀ C W W':=⟨h.mo a,.of_below h⟩
structure Ug(w:AU)(P:Stil.DI->Prop) where
 N:Stil.DI
 av:AW
 kv:AW
 hav:Ar w av N.O.args
 hkv:Fe w kv N.K
 mem:P N
structure Rk(w:AU)(P:Stil.DJ->Prop) where
 A:Stil.DJ
 av:AW
 nv:AW
 cv:AW
 kv:AW
 hav:Ar w av A.N.O.args
 hnv:Fe w nv A.N.K
 hcv:G6 w cv A.C
 hkv:Dx w kv A.K
 mem:P A
def Px(w:AU)(C:Nat->Prop)(W:AU)(v:AW)(l:List Stil.DI):Prop:=∃a cap,v=AE a l.length cap/\∀i(h:i<l.length),∃b o,a=some (AK b o)/\¬C b/\
 ∃c d,W.cell? (AK b (o+i*4))=some (AB l[i].kind)/\W.cell? (AK b (o+i*4+1))=some (AB l[i].O.op)/\W.cell? (AK b (o+i*4+2))=some c/\W.cell? (AK b (o+i*4+3))=some d/\Ar w c l[i].O.args/\Fe w d l[i].K
theorem Px.keep{w:AU}{C:Nat->Prop}{l:List Stil.DI}(h:Px w C W v l)(d:Kw C W W'):Px w C W' v l:=by obtain⟨a,cap,k,n⟩:=h;refine⟨a,cap,k,λi hi=>?_⟩;have⟨b,o,f,c,j,x,u,q,s,g,e,t⟩:=n i hi;exact⟨b,o,f,c,j,x,d.cell c u,d.cell c q,d.cell c s,d.cell c g,e,t⟩
theorem Px.of_at{w:AU}{C:Nat->Prop}{l:List Stil.DI}(h:Fe w v l)(d:AO w W)(q:∀k,C k->w.heap.size<=k):Px w C W v l:=by obtain⟨a,cap,g,u⟩:=h;refine⟨a,cap,g,λi hi=>?_⟩;have⟨b,o,e,c,x⟩:=u i hi;have⟨z,n,t,A,y,f,s,j⟩:=x.open;exact⟨b,o,e,λh=>by have:=q b h;omega,t,A,(d.cell (p:=(AK b _)) c).tr z,(d.cell (p:=(AK b _)) c).tr n,(d.cell (p:=(AK b _)) c).tr y,(d.cell (p:=(AK b _)) c).tr f,s,j⟩
def Og(w:AU)(C:Nat->Prop)(W:AU)(v:AW)(l:List Stil.DJ):Prop:=∃a cap,v=AE a l.length cap/\∀i(h:i<l.length),∃b o,a=some (AK b o)/\¬C b/\
 ∃d e c f,W.cell? (AK b (o+i*6))=some (AB l[i].N.kind)/\W.cell? (AK b (o+i*6+1))=some (AB l[i].N.O.op)/\W.cell? (AK b (o+i*6+2))=some d/\W.cell? (AK b (o+i*6+3))=some e/\
  W.cell? (AK b (o+i*6+4))=some c/\W.cell? (AK b (o+i*6+5))=some f/\Ar w d l[i].N.O.args/\Fe w e l[i].N.K/\G6 w c l[i].C/\Dx w f l[i].K
theorem Og.keep{w:AU}{C:Nat->Prop}{l:List Stil.DJ}(h:Og w C W v l)(d:Kw C W W'):Og w C W' v l:=by obtain⟨a,cap,j,t⟩:=h;refine⟨a,cap,j,λi hi=>?_⟩;have⟨b,o,e,c,s,x,g,z,y,k,u,f,n,A,q⟩:=t i hi;exact⟨b,o,e,c,s,x,g,z,d.cell c y,d.cell c k,d.cell c u,d.cell c f,d.cell c n,d.cell c A,q⟩
theorem Og.of_at{w:AU}{C:Nat->Prop}{l:List Stil.DJ}(h:Dx w v l)(d:AO w W)(u:∀k,C k->w.heap.size<=k):Og w C W v l:=by obtain⟨a,cap,n,z⟩:=h;refine⟨a,cap,n,λi hi=>?_⟩;have⟨b,o,f,c,D⟩:=z i hi;have⟨e,j,I,t,K,A,J⟩:=D.open;have⟨G,s,y,H,E,g,x,q⟩:=e.open;exact⟨b,o,f,λh=>by have:=u b h;omega,y,H,j,I,(d.cell (p:=(AK b _)) c).tr G,(d.cell (p:=(AK b _)) c).tr s,(d.cell (p:=(AK b _)) c).tr E,(d.cell (p:=(AK b _)) c).tr g,(d.cell (p:=(AK b _)) c).tr t,(d.cell (p:=(AK b _)) c).tr K,x,q,A,J⟩
def Xn(h:KeepsFrom B W X)(p:Ab)(v:AW):KeepsFrom B W (X.setCell p v):=h.trans ((KeepsOthers.setCell X p v).from B)
def Ro(h:KeepsFrom B W X)(a:AO X Y):KeepsFrom B W Y:=h.trans ⟨a.size,λk _ _ b _=>(a.block k (BF.1 b).1).trans b⟩
def Rn(h:KeepsFrom B W X):KeepsFrom B W X.drew:=h.trans ((KeepsOthers.drew X).from B)
def Oc(h:KeepsFrom B W X)(o:Obj):KeepsFrom B W (X.alloc o):=h.trans ((KeepsOthers.alloc X o).from B)
theorem SB{C:Nat->Prop}{b:Nat}(h:Kept n₀ C W X)(a:n₀<=b)(c:C b)(v:AW):Kept n₀ C W (X.setCell (AK b o) v):=⟨h.1.s (p:=(AK b o)) a v,h.2.set c v⟩
def Wy{C:Nat->Prop}(h:Kept n₀ C W X)(b:n₀<=W.heap.size)(a:AO X Y):Kept n₀ C W Y:=h.t (Kept.of_below (DR b h.2.size) a)
def Ay7{C:Nat->Prop}(h:Kept n₀ C W X):Kept n₀ C W X.drew:=⟨h.1.drew,h.2.drew⟩
theorem Po{b:Nat}(ob:Obj)(h:W.cell? (AK b o)=some v):(W.alloc ob).cell? (AK b o)=some v:=((Aa W ob).cell (p:=(AK b o)) (Ba h)).tr h
theorem Qd{b:Nat}(ob:Obj)(h:W.cell? (AK b o)=some v)(a:W.frozen? (AK b o)=false):(W.alloc ob).frozen? (AK b o)=false:=((Aa W ob).frozen (p:=(AK b o)) (Ba h)).tr a
def share{T G:Prop}(b:T->G)(a:T):G:=b a
theorem room_of_none(hd:F.depth=none)(k:Nat):F.room k:=λd h=>by rw[hd]at h;cases h
def RoundIn.anyDepth(hd:F.depth=none){m':Nat}{f:FuncId}{tmps:Array AW}{assign body:Code}{w:AU}{R:Ending->World->Prop}
  (h:RoundIn F m P l f tmps assign body w R):RoundIn F m' P l f tmps assign body w R:=⟨h.1,λc a _=>h.2 c a (room_of_none hd _)⟩
def YieldAt.anyDepth(hd:F.depth=none)(m':Nat){args:Array AW}{R:Ending->World->Prop}(h:YieldAt F m P l args W R):YieldAt F m' P l args W R:=by obtain⟨c,b,assign,body,d,a⟩:=h;exact⟨c,b,assign,body,d,RoundIn.anyDepth hd a⟩
theorem VQ{w:AU}{b:Nat}{ds:List Stil.DN}(h:∀i(h:i<ds.length),J3 w b (o+i*3) ds[i]):∀j u,(Dh ds)[j]?=some u->w.cell? (((AK b o):Ab).add j)=some u:=by
 intro j u hu;have k:=(BO.1 hu).1;have z:(Dh ds).length=ds.length*3:=by
  clear hu k h;induction ds with
  |nil=>rfl|cons d r t=>have e:Dh (d::r)=AB d.kind::AB d.n::AB d.p::Dh r:=rfl;rw[e];simp[t];omega
 have hi:j / 3<ds.length:=BS;have⟨c,g,f⟩:=Rz ds (j / 3) hi;have⟨y,s,x⟩:=h (j / 3) hi;rw[Addr.add_lit];have q:j=j / 3*3\/j=j / 3*3+1\/j=j / 3*3+2:=BS;rcases q with e|e|e
 .rw[e]at hu;rw[hu]at c;have a:o+j=o+j / 3*3:=BS;rw[a,y];exact c.symm
 .rw[e]at hu;rw[hu]at g;have a:o+j=o+j / 3*3+1:=BS;rw[a,s];exact g.symm
 rw[e]at hu;rw[hu]at f;have a:o+j=o+j / 3*3+2:=BS;rw[a,x];exact f.symm
def Gm{w:AU}{b:Nat}(h:w.grownBy w' r)(c:b<w.heap.size)(a:r≠some b):w'.cell? (AK b o)=w.cell? (AK b o):=by simp only[World.cell?,h.block b c (λe=>a e.symm)]
def Nq{w:AU}{b:Nat}(h:w.grownBy w' r)(c:b<w.heap.size)(a:r≠some b):w'.frozen? (AK b o)=w.frozen? (AK b o):=by simp only[World.frozen?,h.block b c (λe=>a e.symm)]
theorem VE{w:AU}{base s n:Nat}{e:AZ}{xs:List AW}(h:w.ownsRow base e s v n xs):∃a cap,v=.slice a n cap:=by
 rcases h.2 with⟨b,d⟩|⟨g,c,cur,b,_⟩
 .exact⟨none,0,by rw[b,d]⟩
 exact⟨_,_,b⟩
end
def Ry(l:List Nat)(i:Nat)(h:i<l.length):(l.take (i+1)).sum=(l.take i).sum+l[i]:=by rw[ER h,KB,FK,MU,IL]
theorem J7:∀(l:List Nat)(i:Nat),(l.take i).sum<=l.sum
 |[],i=>by simp
 |x::r,0=>by simp
 |x::r,i+1=>by have:=J7 r i;simp;omega
def Axn(n:Stil.DI):∀(f g:AW)(w:AU),Ar w f n.O.args->Fe w g n.K->Ac n<=1000000000->
  Calls prog 109 #[.agg #[AB n.kind,AB n.O.op,f,g]] w (AN w (AB (Ac n))):=by
 induction n using Gs with
 |h k e kids y=>
  intro f g w t q M;have U:=BX y;clear y;have C:=BX (Qc k e kids);have V:(kids.map Ac).sum<=1000000000:=by have:=C.out;omega
  obtain⟨a,cap,rfl,G⟩:=q;have T:=BX G;obtain⟨aa,E,rfl,_⟩:=t;have ad:kids.length<=1000000000:=by
   have:∀l:List Stil.DI,l.length<=(l.map Ac).sum:=by
    intro l;induction l with
    |nil=>simp|cons x r y=>simp only[DX,FK,DO];have:1<=Ac x:=(by(obtain⟨_,_,_⟩:=x;rw[Qc];omega));omega
   have:=this kids;omega
  clear G M;go_enter func109,ntmps109;go_wp2;go_loopw [3,4] (λacc i wr=>∃j:Nat,j<=kids.length/\i=AB j/\acc=AB (1+((kids.map Ac).take j).sum:Nat)/\Below (w.heap.size+1) (w.alloc (.cells #[AB k,AB e.op,AE aa e.args.length E,AE a kids.length cap] 56)) wr) (λ_ i _=>kids.length - (intOf i).toNat);case atStart=>exact⟨0,BS,rfl,BU,BP _ _⟩
  case round=>obtain⟨j,hj,rfl,rfl,c⟩:=hrel;have Q:w.heap.size<wr.heap.size:=xAi;have c0:wr.c (AL w 0)=some (AB k):=B0 c;have f0:wr.f (AL w 0)=false:=B1 c;have c1:wr.c (AL w 1)=some (AB e.op):=B0 c;have f1:wr.f (AL w 1)=false:=B1 c;have c2:wr.c (AL w 2)=some (AE aa e.args.length E):=B0 c;have f2:wr.f (AL w 2)=false:=B1 c;have c3:wr.c (AL w 3)=some (AE a kids.length cap):=B0 c;have f3:wr.f (AL w 3)=false:=B1 c;have A:=(Aa _ _).tr (c.mo BS);have H:=J7 (kids.map Ac) j;by_cases hlt:j<kids.length;{obtain⟨b,o,rfl,K,I⟩:=T j hlt;have⟨x0,N,f,g,x2,x3,t,q⟩:=(P5.below A _ _ _ I K).open;have d:=Ry (kids.map Ac) j Cd;have S:=J7 (kids.map Ac) (j+1);rw[FW]at d;have u:=BX (λW J=>U kids[j] (DW hlt) f g W (t.below J) (q.below J) BS);have⟨s,z⟩:=AA (Ac kids[j]);have⟨x,D⟩:=AA (kids[j]);rw[<-z]at u d;rw[<-D]at u x0 N;obtain⟨ac,yX,rfl,_⟩:=t;obtain⟨a',ab,rfl,_⟩:=q;generalize O:((kids.map Ac).take j).sum=A1 at d H⊢;have L:=BX d;have ae:A1+s<=1000000000:=BS;clear z D I O d S H V;go_wp2_with(go_at_call 109;refine(u _ Bt).mo ?_;rintro e w2⟨rfl,R⟩);refine⟨⟨j+1,BS,by go_num,?_,c.tr (R.mo Q)⟩,EX⟩;rw[L.out];congr 1;omega};go_wp2;go_ret;refine⟨Fg ?_,A⟩;rw[C.out,FB Bw]
def Q0(n:Stil.DI)(g i:AW)(w:AU)(k:Ar w g n.O.args)(j:Fe w i n.K)(_h1:n.O.args.length<=9223372036854775807)(_h2:n.K.length<=9223372036854775807):
  Calls prog 91 #[.agg #[AB n.kind,AB n.O.op,g,i]] w (AN w (.bool (Ai n))):=by
 obtain⟨aa,s,rfl,_⟩:=k;obtain⟨a,cap,rfl,_⟩:=j;have⟨f,c⟩:=AA n.O.args.length;have⟨d,b⟩:=AA n.K.length;have q:Hid (Ai n=(n.kind==0 && n.O.op==0 && f==0 && d==0)):=by show _=_;unfold Ai;rw[c,b]
 rw[<-c,<-b];rw[<-c]at _h1;rw[<-b]at _h2;clear c b;go_enter func91,ntmps91;go_wp2;all_goals go_ret
 all_goals(refine⟨Ad ?_,Bt⟩)
 all_goals rw[q.out]
 all_goals go_light
 all_goals(rw[E6];simp[*];try omega)
def Nc(x:Stil.DJ):1<=Ah x:=by obtain⟨_,_,_⟩:=x;rw[S9];omega
theorem QM{α:Type}(f:α->Nat)(a:∀x,1<=f x):∀l:List α,l.length<=(l.map f).sum
 |[]=>by simp
 |x::r=>by have:=QM f a r;have:=a x;simp only[DX,FK,DO];omega
def zDa{p:Prop}(h:p:=by go_wp2_with(go_at_call 81;refine(HI _ Bt).mo ?_;rintro e w2⟨rfl,hb2⟩);refine⟨⟨j+1,BS,by go_num,?_,hB.tr (hb2.mo hz)⟩,by simp[intOf];omega⟩;rw[HS.out];congr 1;omega):p:=h
def Axw(n:Stil.DJ):∀(g k A C:AW)(w:AU),Ar w g n.N.O.args->Fe w k n.N.K->G6 w A n.C->Dx w C n.K->Ah n<=1000000000->Bh n->
  Calls prog 81 #[.agg #[AB n.N.kind,AB n.N.O.op,g,k,A,C]] w (AN w (AB (Ah n))):=by
 induction n using Fv with
 |h n d kids ih=>
  intro g k A C w t q z y ah af;simp only at t q z y;have⟨ae,an,_,ak,ag⟩:=(Fa _ _ _).1 af;have⟨_,he,qi,_⟩:=D8 ae;have al:=he.2.1;have IH:=BX ih;have HF:=BX ag;clear ih ag af he ae;have⟨ns,R⟩:=AA (if Ai n then 0 else Ac n);have T:Hid (Ah ⟨n,d,kids⟩=1+d.length+ns+(kids.map Ah).sum):=by show _=_;rw[S9,R]
  have ad:1+d.length+ns+(kids.map Ah).sum<=1000000000:=by have:=T.out;omega
  have iU:=BX (λW c=>Q0 n g k W (t.below c) (q.below c) BS BS);have iR:Hid (Ai n=false->∀W,AO w W->Calls prog 109 #[.agg #[AB n.kind,AB n.O.op,g,k]] W (AN W (AB ns))):=λh0 W c=>by have e0:ns=Ac n:=(by rw[R,h0];rfl);rw[e0];exact Axn n g k W (t.below c) (q.below c) BS
  have nV:Hid (Ai n=true->ns=0):=λh0=>by rw[R,h0];rfl
  obtain⟨a,cap,rfl,D⟩:=y;have HC:=BX D;obtain⟨aa,L,rfl,_⟩:=t;obtain⟨M,N,rfl,_⟩:=q;obtain⟨Q,S,rfl,_⟩:=z;clear D ah R;cases O:Ai n
  .go_enter func81,ntmps81;go_wp2_with(first|(go_at_call 91;refine(iU _ Bt).mo ?_;rw[O];rintro e w1⟨rfl,u⟩;have⟨D,U⟩:=F8 u)|(go_at_call 109;refine(iR O _ Bt).mo ?_;rintro e w2⟨rfl,hb2⟩));go_loopw [3,4] (λacc i wr=>∃j:Nat,j<=kids.length/\i=AB j/\acc=AB (1+d.length+ns+((kids.map Ah).take j).sum:Nat)/\Below (w.heap.size+1) (w.alloc (.cells #[AB n.kind,AB n.O.op,AE aa n.O.args.length L,AE M n.K.length N,AE Q d.length S,AE a kids.length cap] 59)) wr) (λ_ i _=>kids.length - (intOf i).toNat);case atStart=>exact⟨0,BS,rfl,BU,(u.mo BU).tr (hb2.mo (by have:=u.size;simpa using this))⟩
   case round=>clear D U u hb2;obtain⟨j,hj,rfl,rfl,hB⟩:=hrel;have hz:w.heap.size<wr.heap.size:=xAp;have c0:wr.c (AL w 0)=some (AB n.kind):=B0 hB;have f0:wr.f (AL w 0)=false:=B1 hB;have c1:wr.c (AL w 1)=some (AB n.O.op):=B0 hB;have f1:wr.f (AL w 1)=false:=B1 hB;have c2:wr.c (AL w 2)=some (AE aa n.O.args.length L):=B0 hB;have f2:wr.f (AL w 2)=false:=B1 hB;have c3:wr.c (AL w 3)=some (AE M n.K.length N):=B0 hB;have f3:wr.f (AL w 3)=false:=B1 hB;have c4:wr.c (AL w 4)=some (AE Q d.length S):=B0 hB;have f4:wr.f (AL w 4)=false:=B1 hB;have c5:wr.c (AL w 5)=some (AE a kids.length cap):=B0 hB;have f5:wr.f (AL w 5)=false:=B1 hB;have J:=(Aa _ _).tr (hB.mo BS);have G:=J7 (kids.map Ah) j;by_cases hlt:j<kids.length;{obtain⟨b,o,rfl,ab,I⟩:=HC j hlt;have⟨E,A,C,x4,x5,z,y⟩:=(Ri.below J _ _ _ I ab).open;have⟨x0,x1,g,k,x2,x3,t,q⟩:=E.open;have f:=Ry (kids.map Ah) j Cd;have ac:=J7 (kids.map Ah) (j+1);rw[FW]at f;have HI:=BX (λW c=>IH kids[j] (DW hlt) g k A C W (t.below c) (q.below c) (z.below c) (y.below c) BS (HF _ (DW hlt)));have⟨s,H⟩:=AA (Ah kids[j]);have⟨x,K⟩:=AA (kids[j]);rw[<-H]at HI f;rw[<-K]at HI x0 x1;obtain⟨q1,q2,rfl,_⟩:=t;obtain⟨q3,q4,rfl,_⟩:=q;obtain⟨q5,q6,rfl,_⟩:=z;obtain⟨q7,q8,rfl,_⟩:=y;generalize V:((kids.map Ah).take j).sum=A1 at f G⊢;have HS:=BX f;have aj:1+d.length+ns+A1+s<=1000000000:=BS;clear H K I E V f ac G ad;exact zDa};go_wp2;go_ret;refine⟨Fg ?_,J⟩;rw[T.out,FB Bw]
  have ai:=nV O;subst ai;go_enter func81,ntmps81;go_wp2_with(first|(go_at_call 91;refine(iU _ Bt).mo ?_;rw[O];rintro e w1⟨rfl,u⟩;have⟨D,U⟩:=F8 u));go_loopw [3,4] (λacc i wr=>∃j:Nat,j<=kids.length/\i=AB j/\acc=AB (1+d.length+0+((kids.map Ah).take j).sum:Nat)/\Below (w.heap.size+1) (w.alloc (.cells #[AB n.kind,AB n.O.op,AE aa n.O.args.length L,AE M n.K.length N,AE Q d.length S,AE a kids.length cap] 59)) wr) (λ_ i _=>kids.length - (intOf i).toNat);case atStart=>exact⟨0,BS,rfl,BU,u.mo BU⟩
  case round=>clear D U u;obtain⟨j,hj,rfl,rfl,hB⟩:=hrel;have hz:w.heap.size<wr.heap.size:=xAp;have c0:wr.c (AL w 0)=some (AB n.kind):=B0 hB;have f0:wr.f (AL w 0)=false:=B1 hB;have c1:wr.c (AL w 1)=some (AB n.O.op):=B0 hB;have f1:wr.f (AL w 1)=false:=B1 hB;have c2:wr.c (AL w 2)=some (AE aa n.O.args.length L):=B0 hB;have f2:wr.f (AL w 2)=false:=B1 hB;have c3:wr.c (AL w 3)=some (AE M n.K.length N):=B0 hB;have f3:wr.f (AL w 3)=false:=B1 hB;have c4:wr.c (AL w 4)=some (AE Q d.length S):=B0 hB;have f4:wr.f (AL w 4)=false:=B1 hB;have c5:wr.c (AL w 5)=some (AE a kids.length cap):=B0 hB;have f5:wr.f (AL w 5)=false:=B1 hB;have J:=(Aa _ _).tr (hB.mo BS);have G:=J7 (kids.map Ah) j;by_cases hlt:j<kids.length;{obtain⟨b,o,rfl,ab,I⟩:=HC j hlt;have⟨E,A,C,x4,x5,z,y⟩:=(Ri.below J _ _ _ I ab).open;have⟨x0,x1,g,k,x2,x3,t,q⟩:=E.open;have f:=Ry (kids.map Ah) j Cd;have ac:=J7 (kids.map Ah) (j+1);rw[FW]at f;have HI:=BX (λW c=>IH kids[j] (DW hlt) g k A C W (t.below c) (q.below c) (z.below c) (y.below c) BS (HF _ (DW hlt)));have⟨s,H⟩:=AA (Ah kids[j]);have⟨x,K⟩:=AA (kids[j]);rw[<-H]at HI f;rw[<-K]at HI x0 x1;obtain⟨q1,q2,rfl,_⟩:=t;obtain⟨q3,q4,rfl,_⟩:=q;obtain⟨q5,q6,rfl,_⟩:=z;obtain⟨q7,q8,rfl,_⟩:=y;generalize V:((kids.map Ah).take j).sum=A1 at f G⊢;have HS:=BX f;have aj:1+d.length+0+A1+s<=1000000000:=BS;clear H K I E V f ac G ad;exact zDa};go_wp2;go_ret;refine⟨Fg ?_,J⟩;rw[T.out,FB Bw]
def YI(l:List Stil.DJ)(g:AW)(w:AU)(d:Dx w g l)(y:Au l<=1000000000)(A:∀x∈l,Bh x):
  Calls prog 46 #[g] w (AN w (AB (Au l))):=by
 obtain⟨a,cap,rfl,E⟩:=d;have U:=BX E;have S:=BX A;have M:Hid (Au l=(l.map Ah).sum):=rfl;have V:(l.map Ah).sum<=1000000000:=y;have O:=QM Ah Nc l;have ab:l.length<=1000000000:=BS;clear E A y O;go_enter func46,ntmps46;go_wp2;go_loopw [3,4] (λacc i wr=>∃j:Nat,j<=l.length/\i=AB j/\acc=AB (((l.map Ah).take j).sum:Nat)/\AO w wr) (λ_ i _=>l.length - (intOf i).toNat);case atStart=>exact⟨0,BS,rfl,BU,BP _ _⟩
 case round=>obtain⟨j,hj,rfl,rfl,u⟩:=hrel;have G:=J7 (l.map Ah) j;by_cases hlt:j<l.length;{obtain⟨b,o,rfl,J,H⟩:=U j hlt;have⟨q,K,g,x4,x5,I,d⟩:=(Ri.below u _ _ _ H J).open;have⟨x0,N,R,nv,x2,x3,D,C⟩:=q.open;have c:=Ry (l.map Ah) j Cd;have T:=J7 (l.map Ah) (j+1);rw[FW]at c;have k:=BX (λW f=>Axw l[j] R nv K g W (D.below f) (C.below f) (I.below f) (d.below f) BS (S _ (DW hlt)));have⟨s,t⟩:=AA (Ah l[j]);have⟨x,z⟩:=AA (l[j]);rw[<-t]at k c;rw[<-z]at k x0 N;obtain⟨q1,q2,rfl,_⟩:=D;obtain⟨q3,q4,rfl,_⟩:=C;obtain⟨q5,q6,rfl,_⟩:=I;obtain⟨q7,q8,rfl,_⟩:=d;generalize Q:((l.map Ah).take j).sum=A1 at c G⊢;have L:=BX c;have ac:A1+s<=1000000000:=BS;clear t z H q Q c T G V;go_wp2_with(go_at_call 81;refine(k _ Bt).mo ?_;rintro e w2⟨rfl,aa⟩);refine⟨⟨j+1,BS,by go_num,?_,Bt⟩,EX⟩;rw[L.out];rfl};go_wp2;go_ret;refine⟨Fg ?_,u⟩;rw[M.out,FB Bw]
def Zu(w:AU)(b o:Nat)(i:Stil.Aw):Prop:=w.cell? (AK b o)=some (AB i.code)/\w.cell? (AK b (o+1))=some (AB i.O.op)/\∃a,w.cell? (AK b (o+2))=some a/\Ar w a i.O.args
def Gn(w:AU)(v:AW)(l:List Stil.Aw):Prop:=∃a cap,v=AE a l.length cap/\∀i(h:i<l.length),∃b o,a=some (AK b o)/\b<w.heap.size/\Zu w b (o+i*3) l[i]
def Zu.below{w w':AU}{b o:Nat}{i:Stil.Aw}(h:Zu w b o i)(a:AO w w')(c:b<w.heap.size):Zu w' b o i:=by obtain⟨d,e,f,j,g⟩:=h;exact⟨by rwa[a.cell (p:=(AK b o)) c],by rwa[a.cell (p:=(AK b (o+1))) c],f,by rwa[a.cell (p:=(AK b (o+2))) c],g.below a⟩
def Gn.below{w w':AU}{v:AW}{l:List Stil.Aw}(h:Gn w v l)(hb:AO w w'):Gn w' v l:=by exact zGa
def GU(w:AU)(b:Nat)(s:Stil.Pt):Prop:=b<w.heap.size/\w.cell? (AK b 0)=some (AB s.bits)/\w.cell? (AK b 1)=some (AB s.forks)/\w.cell? (AK b 2)=some (.bool s.seen)/\w.cell? (AK b 3)=some (.bool s.coil)/\
 w.frozen? (AK b 0)=false/\w.frozen? (AK b 1)=false/\w.frozen? (AK b 2)=false/\w.frozen? (AK b 3)=false
def GU.below{w w':AU}{b:Nat}{s:Stil.Pt}(h:GU w b s)(a:AO w w'):GU w' b s:=by
 obtain⟨c,d,f,k,i,j,n,e,g⟩:=h
 exact⟨DL c a.size,(a.cell (p:=(AK b 0)) c).tr d,(a.cell (p:=(AK b 1)) c).tr f,(a.cell (p:=(AK b 2)) c).tr k,(a.cell (p:=(AK b 3)) c).tr i,
  (a.frozen (p:=(AK b 0)) c).tr j,(a.frozen (p:=(AK b 1)) c).tr n,(a.frozen (p:=(AK b 2)) c).tr e,(a.frozen (p:=(AK b 3)) c).tr g⟩
def Mc{W:AU}{p q:Ab}{v:AW}:(W.setCell p v).frozen? q=W.frozen? q:=AP
def GU.stored{w:AU}{b:Nat}{s:Stil.Pt}(h:GU w b s)(t:Stil.Pt):GU (Sx4 w b 0 (AB t.bits) (AB t.forks) (.bool t.seen) (.bool t.coil)) b t:=by
 obtain⟨d,a,c,f,e,j,k,g,i⟩:=h;refine⟨?_,?_,?_,?_,?_,?_,?_,?_,?_⟩
 .exact DL d (DR (Jh _ _ _) (DR (Jh _ _ _) (DR (Jh _ _ _) (Jh _ _ _))))
 .exact(Ci BS).tr ((Ci BS).tr ((Ci BS).tr (E8 a)))
 .exact(Ci BS).tr ((Ci BS).tr (E8 ((Ci BS).tr c)))
 .exact(Ci BS).tr (E8 ((Ci BS).tr ((Ci BS).tr f)))
 .exact E8 ((Ci BS).tr ((Ci BS).tr ((Ci BS).tr e)))
 all_goals exact Mc.tr (Mc.tr (Mc.tr (Mc.tr CB)))
