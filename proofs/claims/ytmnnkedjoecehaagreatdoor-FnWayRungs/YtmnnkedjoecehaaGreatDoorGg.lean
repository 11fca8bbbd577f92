import Derived.Test.YtmnnkedjoecehaaGreatDoorGB
import Derived.Lib.SmallJoins
import Derived.Deep.RegionLaw
import Derived.Deep.DeepCutAuto
import Derived.RangeFuncNested
import Derived.RangeFuncBound
import Derived.Shelf.Abstract
set_option linter.defProp false
set_option maxHeartbeats 1000000
set_option maxRecDepth 100000
namespace Go.Proofs.YtmnnkedjoecehaaGreatDoor
open Tryz Go.RowKit Go.Sort Go.BigFrame
variable {B base l lo m n n₀ o p size:Nat}{E:Prop}{F:Fence}{P:Program}{W W' X Y Z w':World}{a:Act}{e:TypeId}{ops:Array Oper}{r:Option Nat}{v:Value}{xs:List Value}
def P3:(prog.info? 111).map (λi=>(i.zero,i.size,i.bytes))=some (some (.agg #[AB 0,AB 0,AB 0]),3,24):=AX
def Xp (d:Stil.CC):List Value:=[AB d.kind,AB d.n,AB d.p]
def Ar (b:List Stil.CC):List Value:=b.flatMap Xp
theorem Kv (b:List Stil.CC):(Ar b).length=b.length*3:=by
 induction b with
 | nil=>rfl
 | cons d r c=>simp[Ar,Xp] at c ⊢;omega
def qR (b:List Stil.CC)(d:Stil.CC):Ar (b++[d])=Ar b++Xp d:=by simp[Ar]
theorem Nw (b:List Stil.CC):∀(i:Nat) (h:i<b.length),(Ar b)[i*3]?=some (AB b[i].kind)/\(Ar b)[i*3+1]?=some (AB b[i].n)/\(Ar b)[i*3+2]?=some (AB b[i].p):=by
 induction b with
 | nil=>intro i h;simp at h
 | cons d r c=>
  intro i h;have e:Ar (d::r)=AB d.kind::AB d.n::AB d.p::Ar r:=rfl;cases i with
  | zero=>rw[e];simp
  | succ i=>
   have f:i<r.length:=by simpa using h
   rw[e];have:=c i f
   have g:(i+1)*3=i*3+3:=AQ
   rw[g];simpa using this
def add_plain (g j:Nat):((AK g 0):Addr).add j=(AK g j):=by unfold Addr.add;split<;>simp_all
theorem Bg {w:World}(h:w.ownsRow base e size v n xs)(f:0<n):∃g cap,v=AE (some (AK g 0)) n cap/\base<=g/\g<w.heap.size/\n<=cap/\∀j u,xs[j]?=some u->w.cell? (AK g j)=some u:=by
 have b:=h.2;rcases b with⟨_,i⟩ | ⟨g,cap,cur,hv,c,_,d,_⟩
 ·omega
 ·refine⟨g,cap,hv,c,(h.lt g yEh).2,d,λj u hu=>?_⟩
  have:=h.cells (g:=g) yEh j u hu
  rwa [add_plain] at this
def zl0 {p:Prop}(h:p:=by
 have hn:=List.length_eq_zero_iff.1 hd
 subst hn;rcases h.2 with⟨h0,_⟩ | ⟨g,cap,cur,hv,_⟩
 ·exact⟨none,0,h0,λi hi=>by simp at hi⟩
 ·exact⟨_,cap,hv,λi hi=>by simp at hi⟩):p:=h
theorem Dj.of_owns {w:World}{b:List Stil.CC}(h:w.ownsRow base 111 3 v b.length (Ar b)):Dj w v b:=by
 by_cases hd:b.length=0
 ·exact zl0
 ·obtain⟨g,cap,hv,_,k,_,c⟩:=Bg h AQ
  refine⟨_,cap,hv,λi hi=>⟨g,0,rfl,k,?_⟩⟩;obtain⟨j,f,d⟩:=Nw b i hi;unfold Ju;rw[CV];exact⟨c _ _ j,c _ _ f,c _ _ d⟩
theorem ownsRow_below {w:World}(h:w.ownsRow base e size v n xs)(c:AO w w'):w'.ownsRow base e size v n xs:=by
 refine⟨h.1,?_⟩;rcases h.2 with i | ⟨g,cap,cur,hv,d,b,f⟩
 ·exact Or.inl i
 ·have:=(h.lt g yEh).2
  exact Or.inr ⟨g,cap,cur,hv,d,by rw[c.block g this];exact b,f⟩
theorem Il (W:World)(cs:List Value)(t:TypeId)(b:Nat)(c:b=W.heap.size):∀j u,cs[j]?=some u->(W.alloc (.cells cs.toArray t)).cell? (((AK b 0):Addr).add j)=some u:=by
 subst c;intro j u d;rw[add_plain,World.cell?_alloc_at _ _ _ _ rfl];simpa using d
theorem pD {o:Oper}{w:World}{K:Act->World->Prop}{Q:Exit->Act->World->Prop}
  (hg:o.guard=none) (s x:Operand) (t:TypeId) (k:o.op=.call {callee:=.builtin .append,args:=#[s,x],argTypes:=#[t,t]})
  (base:Nat) (e:TypeId) (i:TypeInfo) (z:Value) (size bytes:Nat) (L:P.underlying t=some (.slice e)) (hi:P.info? e=some i) (N:i.zero=some z)
  (G:i.size=size) (q:i.bytes=bytes) (C:z.cells.size=size) (g:0<size)
  (v:Value) (n:Nat) (xs:List Value) (I:a.eval s=v) (D:w.ownsRow base e size v n xs)
  (ad:Addr) (m c:Nat) (news:List Value) (hx:a.eval x=AE (some ad) m c) (hl:news.length=m*size) (M:∀j u,news[j]?=some u->w.cell? (ad.add j)=some u) (h1:∀u∈news,u.oneCell'=true)
  (H:n+m<=maxLen) (d:(n+m)*bytes<=140737488355328) (h:base<=w.heap.size)
  (J:∀b w',w'.ownsRow base e size b (n+m) (xs++news)->w.grownBy w' v.ownBlock->K (a.put o.dst b) w'):
  if Region.wanted o (yielded ops a.tmps)=true then Oper.wp P o a w K Q else E:=by
 have A:Region.wanted o (yielded ops a.tmps)=true:=by simp[Region.wanted,hg]
 rw[if_pos A];exact wp_append_own w s x t k base e i z size bytes L hi N G q C g v n xs I D ad m c news hx hl M h1 H d h λb w' f y _=>J b w' f y
theorem Xo (b:List Stil.CC):∀u∈Ar b,u.oneCell'=true:=by
 intro u hu;simp only[Ar,List.mem_flatMap,Xp] at hu;obtain⟨d,_,hd⟩:=hu;simp at hd;rcases hd with rfl | rfl | rfl<;>rfl
theorem kf (d e:Stil.CC):(d=e)↔(d.kind=e.kind/\d.n=e.n/\d.p=e.p):=by
 cases d;cases e;simp
open Stil
def Uz (w:World):Nat->Nat->Stil.B8->Prop
 | b,o,⟨k,e,kids⟩=>w.cell? ⟨b,o,none⟩=some (AB k)/\w.cell? ⟨b,o+1,none⟩=some (AB e.op)/\
   (∃d,w.cell? ⟨b,o+2,none⟩=some d/\Dj w d e.args)/\
   ∃a cap,w.cell? ⟨b,o+3,none⟩=some (AE a kids.length cap)/\∀i (h:i<kids.length),∃c f,a=some ⟨c,f,none⟩/\c<w.heap.size/\
    (have:=M4 (CJ h);Uz w c (f+i*4) kids[i])
def MD (w:World)(b o:Nat)(k:Int)(e:Stil.Elem)(kids:List Stil.B8):Uz w b o ⟨k,e,kids⟩=(w.cell? (AK b o)=some (AB k)/\w.cell? (AK b (o+1))=some (AB e.op)/\
   (∃d,w.cell? (AK b (o+2))=some d/\Dj w d e.args)/\
   ∃a cap,w.cell? (AK b (o+3))=some (AE a kids.length cap)/\∀i (h:i<kids.length),∃c f,a=some (AK c f)/\c<w.heap.size/\Uz w c (f+i*4) kids[i]):=by rw[Uz]
def Gg (w:World)(v:Value)(ns:List Stil.B8):Prop:=∃a cap,v=AE a ns.length cap/\∀i (h:i<ns.length),∃b o,a=some ⟨b,o,none⟩/\b<w.heap.size/\Uz w b (o+i*4) ns[i]
theorem gA (w:World)(b o:Nat)(k:Int)(e:Stil.Elem)(kids:List Stil.B8):Uz w b o ⟨k,e,kids⟩↔(w.cell? (AK b o)=some (AB k)/\w.cell? (AK b (o+1))=some (AB e.op)/\
   (∃j,w.cell? (AK b (o+2))=some j/\Dj w j e.args)/\∃i,w.cell? (AK b (o+3))=some i/\Gg w i kids):=by
 rw[MD];constructor
 ·rintro⟨h,d,c,a,cap,g,f⟩;exact⟨h,d,c,_,g,a,cap,rfl,f⟩
 ·rintro⟨h,d,c,_,g,a,cap,rfl,f⟩;exact⟨h,d,c,a,cap,g,f⟩
def zB0 {p:Prop}(h:p:=by
 obtain⟨b',o',ha,hl',hn⟩:=h6 i hi
 exact⟨b',o',ha,CB hl' hb.size,ih _ (CJ hi) b' _ hn hl'⟩):p:=h
theorem Uz.below {w:World}(hb:AO w w'):∀(n:Stil.B8) (b o:Nat),Uz w b o n->b<w.heap.size->Uz w' b o n:=by
 intro n;induction n using Fp with
 | h k e kids ih=>
  intro b o h c;rw[MD] at h ⊢;obtain⟨j,d,⟨g,q,s⟩,a,cap,f,h6⟩:=h;refine⟨?_,?_,⟨g,?_,s.below hb⟩,a,cap,?_,λi hi=>?_⟩
  ·rw[hb.cell (p:=(AK b o)) c];exact j
  ·rw[hb.cell (p:=(AK b (o+1))) c];exact d
  ·rw[hb.cell (p:=(AK b (o+2))) c];exact q
  ·rw[hb.cell (p:=(AK b (o+3))) c];exact f
  ·exact zB0
theorem Gg.below {w:World}{ns:List Stil.B8}(h:Gg w v ns)(c:AO w w'):Gg w' v ns:=by
 obtain⟨a,cap,g,k⟩:=h;refine⟨a,cap,g,λi hi=>?_⟩;obtain⟨b,o,j,d,f⟩:=k i hi;exact⟨b,o,j,CB d c.size,Uz.below c _ _ _ f d⟩
def Kx (w:World)(b o:Nat)(e:Stil.Elem):Prop:=w.cell? ⟨b,o,none⟩=some (AB e.op)/\∃c,w.cell? ⟨b,o+1,none⟩=some c/\Dj w c e.args
def Ir (w:World)(v:Value)(es:List Stil.Elem):Prop:=∃a cap,v=AE a es.length cap/\∀i (h:i<es.length),∃b o,a=some ⟨b,o,none⟩/\b<w.heap.size/\Kx w b (o+i*2) es[i]
theorem Kx.below {w:World}{b:Nat}{e:Stil.Elem}(h:Kx w b o e)(c:AO w w')(d:b<w.heap.size):Kx w' b o e:=by
 obtain⟨j,i,g,f⟩:=h;exact⟨by rw[c.cell (p:=(AK b o)) d];exact j,i,by rw[c.cell (p:=(AK b (o+1))) d];exact g,f.below c⟩
theorem Ir.below {w:World}{es:List Stil.Elem}(h:Ir w v es)(c:AO w w'):Ir w' v es:=by
 obtain⟨a,cap,g,k⟩:=h;refine⟨a,cap,g,λi hi=>?_⟩;obtain⟨b,o,j,d,f⟩:=k i hi;exact⟨b,o,j,CB d c.size,f.below c d⟩
def X4 (w:World):Nat->Nat->Stil.B9->Prop
 | b,o,⟨n,g,kids⟩=>Uz w b o n/\(∃d,w.cell? ⟨b,o+4,none⟩=some d/\Ir w d g)/\
   ∃a cap,w.cell? ⟨b,o+5,none⟩=some (AE a kids.length cap)/\∀i (h:i<kids.length),∃c f,a=some ⟨c,f,none⟩/\c<w.heap.size/\
    (have:=M4 (CJ h);X4 w c (f+i*6) kids[i])
def QH (w:World)(b o:Nat)(n:Stil.B8)(d:List Stil.Elem)(kids:List Stil.B9):X4 w b o ⟨n,d,kids⟩=(Uz w b o n/\(∃f,w.cell? (AK b (o+4))=some f/\Ir w f d)/\
   ∃a cap,w.cell? (AK b (o+5))=some (AE a kids.length cap)/\∀i (h:i<kids.length),∃c g,a=some (AK c g)/\c<w.heap.size/\X4 w c (g+i*6) kids[i]):=by rw[X4]
def E8 (w:World)(v:Value)(l:List Stil.B9):Prop:=∃a cap,v=AE a l.length cap/\∀i (h:i<l.length),∃b o,a=some ⟨b,o,none⟩/\b<w.heap.size/\X4 w b (o+i*6) l[i]
theorem X4.below {w:World}(hb:AO w w'):∀(n:Stil.B9) (b o:Nat),X4 w b o n->b<w.heap.size->X4 w' b o n:=by
 intro n;induction n using Fq with
 | h n q kids ih=>
  intro b o h c;rw[QH] at h ⊢;obtain⟨f,⟨j,g,k⟩,a,cap,d,h6⟩:=h;refine⟨Uz.below hb _ _ _ f c,⟨j,?_,k.below hb⟩,a,cap,?_,λi hi=>?_⟩
  ·rw[hb.cell (p:=(AK b (o+4))) c];exact g
  ·rw[hb.cell (p:=(AK b (o+5))) c];exact d
  ·exact zB0
theorem E8.below {w:World}{ns:List Stil.B9}(h:E8 w v ns)(c:AO w w'):E8 w' v ns:=by
 obtain⟨a,cap,g,k⟩:=h;refine⟨a,cap,g,λi hi=>?_⟩;obtain⟨b,o,j,d,f⟩:=k i hi;exact⟨b,o,j,CB d c.size,X4.below c _ _ _ f d⟩
theorem Uz.open {w:World}{b:Nat}{n:Stil.B8}(h:Uz w b o n):w.cell? (AK b o)=some (AB n.kind)/\w.cell? (AK b (o+1))=some (AB n.one.op)/\
   ∃d c,w.cell? (AK b (o+2))=some d/\w.cell? (AK b (o+3))=some c/\Dj w d n.one.args/\Gg w c n.kids:=by
 obtain⟨k,e,kids⟩:=n;obtain⟨s,g,⟨d,f,q⟩,c,i,j⟩:=(gA _ _ _ _ _ _).1 h;exact⟨s,g,d,c,f,i,q,j⟩
theorem X4.open {w:World}{b:Nat}{n:Stil.B9}(h:X4 w b o n):Uz w b o n.net/\∃c d,w.cell? (AK b (o+4))=some c/\w.cell? (AK b (o+5))=some d/\Ir w c n.coils/\E8 w d n.kids:=by
 obtain⟨n,q,kids⟩:=n;rw[QH] at h;obtain⟨k,⟨c,f,j⟩,a,cap,g,i⟩:=h;exact⟨k,c,_,f,g,j,a,cap,rfl,i⟩
theorem Bl {b c:Nat}(h:c≠b):(W.setCell ⟨b,o,none⟩ v).cell? ⟨c,p,none⟩=W.cell? ⟨c,p,none⟩:=by
 simp[go_sem]
theorem A8 {b:Nat}(h:p≠o):(W.setCell ⟨b,o,none⟩ v).cell? ⟨b,p,none⟩=W.cell? ⟨b,p,none⟩:=by
 simp[go_sem]
theorem Fb {b:Nat}{u:Value}(h:W.cell? ⟨b,o,none⟩=some u):(W.setCell ⟨b,o,none⟩ v).cell? ⟨b,o,none⟩=some v:=by
 simp[go_sem,h]
def Iz (W:World)(p:Addr)(v:Value):W.heap.size<=(W.setCell p v).heap.size:=((Below.refl 0 W).setCell (DZ _) v).size
def Kr (lo:Nat)(w:World)(v:Value)(c:List Stil.CC):Prop:=∃a cap,v=AE a c.length cap/\∀i (h:i<c.length),∃b o,a=some ⟨b,o,none⟩/\lo<=b/\b<w.heap.size/\Ju w b (o+i*3) c[i]
theorem Kr.at {w:World}{c:List Stil.CC}(h:Kr lo w v c):Dj w v c:=by
 obtain⟨a,cap,d,j⟩:=h;refine⟨a,cap,d,λi hi=>?_⟩;obtain⟨b,o,g,k,f,hd⟩:=j i hi;exact⟨b,o,g,f,hd⟩
theorem Kr.of_owns {w:World}{b:List Stil.CC}(h:w.ownsRow base 111 3 v b.length (Ar b)):Kr base w v b:=by
 by_cases hd:b.length=0
 ·exact zl0
 ·obtain⟨g,cap,hv,j,q,_,c⟩:=Bg h AQ
  refine⟨_,cap,hv,λi hi=>⟨g,0,rfl,j,q,?_⟩⟩;obtain⟨k,f,d⟩:=Nw b i hi;unfold Ju;rw[CV];exact⟨c _ _ k,c _ _ f,c _ _ d⟩
def Xy (lo:Nat)(w:World):Nat->Nat->Stil.B8->Prop
 | b,o,⟨k,e,kids⟩=>w.cell? ⟨b,o,none⟩=some (AB k)/\w.cell? ⟨b,o+1,none⟩=some (AB e.op)/\
   (∃d,w.cell? ⟨b,o+2,none⟩=some d/\Kr lo w d e.args)/\
   ∃a cap,w.cell? ⟨b,o+3,none⟩=some (AE a kids.length cap)/\∀i (h:i<kids.length),∃c f,a=some ⟨c,f,none⟩/\lo<=c/\c<w.heap.size/\
    (have:=M4 (CJ h);Xy lo w c (f+i*4) kids[i])
def XB (lo:Nat)(w:World)(b o:Nat)(k:Int)(e:Stil.Elem)(kids:List Stil.B8):Xy lo w b o ⟨k,e,kids⟩=(w.cell? (AK b o)=some (AB k)/\w.cell? (AK b (o+1))=some (AB e.op)/\
   (∃d,w.cell? (AK b (o+2))=some d/\Kr lo w d e.args)/\
   ∃a cap,w.cell? (AK b (o+3))=some (AE a kids.length cap)/\∀i (h:i<kids.length),∃c f,a=some (AK c f)/\lo<=c/\c<w.heap.size/\Xy lo w c (f+i*4) kids[i]):=by rw[Xy]
def Z7 (lo:Nat)(w:World)(v:Value)(ns:List Stil.B8):Prop:=∃a cap,v=AE a ns.length cap/\∀i (h:i<ns.length),∃b o,a=some ⟨b,o,none⟩/\lo<=b/\b<w.heap.size/\Xy lo w b (o+i*4) ns[i]
theorem vj (lo:Nat)(w:World)(b o:Nat)(n:Stil.B8):Xy lo w b o n↔(w.cell? (AK b o)=some (AB n.kind)/\w.cell? (AK b (o+1))=some (AB n.one.op)/\
   (∃j,w.cell? (AK b (o+2))=some j/\Kr lo w j n.one.args)/\∃i,w.cell? (AK b (o+3))=some i/\Z7 lo w i n.kids):=by
 obtain⟨k,e,kids⟩:=n;rw[XB];constructor
 ·rintro⟨f,c,g,a,cap,h,d⟩;exact⟨f,c,g,_,h,a,cap,rfl,d⟩
 ·rintro⟨f,c,g,_,h,a,cap,rfl,d⟩;exact⟨f,c,g,a,cap,h,d⟩
theorem Xy.at {w:World}:∀(n:Stil.B8) (b o:Nat),Xy lo w b o n->Uz w b o n:=by
 intro n;induction n using Fp with
 | h k e kids y=>
  intro b o h;rw[XB] at h;rw[MD];obtain⟨t,f,⟨j,u,z⟩,a,cap,g,q⟩:=h;refine⟨t,f,⟨j,u,z.at⟩,a,cap,g,λi hi=>?_⟩;obtain⟨c,A,x,C,s,d⟩:=q i hi;exact⟨c,A,x,s,y _ (CJ hi) c _ d⟩
theorem Z7.at {w:World}{ns:List Stil.B8}(h:Z7 lo w v ns):Gg w v ns:=by
 obtain⟨a,cap,c,g⟩:=h;refine⟨a,cap,c,λi hi=>?_⟩;obtain⟨b,o,f,j,d,hd⟩:=g i hi;exact⟨b,o,f,d,Xy.at _ _ _ hd⟩
structure Ky (C:Nat->Prop)(W W':World):Prop where
 size:W.heap.size<=W'.heap.size
 same:∀(k:Nat) (o:Obj),¬C k->W.heap[k]?=some o->o.isCells=true->W'.heap[k]?=some o
def Ky.refl (C:Nat->Prop)(W:World):Ky C W W:=⟨CG _,λ_ _ _ h _=>h⟩
theorem Ky.trans {C:Nat->Prop}(h:Ky C X Y)(k:Ky C Y Z):Ky C X Z:=⟨CM h.size k.size,λi o c hi b=>k.same i o c (h.same i o c hi b) b⟩
theorem Ky.of_below {C:Nat->Prop}(h:AO W W'):Ky C W W':=
 ⟨h.size,λk _ _ b _=>(h.block k (Array.getElem?_eq_some_iff.1 b).1).trans b⟩
theorem Ky.drew {C:Nat->Prop}(h:Ky C W W'):Ky C W W'.drew:=⟨h.size,h.same⟩
def Ky.call {C:Nat->Prop}(h:Ky C W X)(b:AO X Y):Ky C W Y:=h.trans (.of_below b)
theorem Ky.set {C:Nat->Prop}{b:Nat}(h:Ky C W W')(c:C b)(v:Value):Ky C W (W'.setCell (AK b o) v):=
 h.trans ⟨by simp[World.setCell],λk _ f d _=>(Below.heap_setCell W' (AK b o) v k (λe=>f (by rw[e];exact c))).trans d⟩
theorem Ky.putObj {C:Nat->Prop}(W:World){o:Obj}(f:Obj)(h:W.heap[l]?=some o)(d:o.isCells=false):Ky C W (W.putObj l f):=
 ⟨by simp[World.putObj],λk p _ b c=>by
  by_cases e:k=l
  ·subst e
   rw[h] at b;cases b;rw[d] at c;cases c
  ·rw[World.putObj_heap_other e];exact b⟩
theorem Ky.cell {C:Nat->Prop}(h:Ky C W W'){b:Nat}(f:¬C b)(d:W.cell? (AK b o)=some v):W'.cell? (AK b o)=some v:=by
 obtain⟨p,c,g⟩:=cells_of_cell d;exact(World.cell?_of_block (w:=W) ((h.same b p f c g).trans c.symm)).trans d
theorem Bf {b:Nat}(h:W.cell? (AK b o)=some v):b<W.heap.size:=by
 obtain⟨p,c,_⟩:=cells_of_cell h;exact(Array.getElem?_eq_some_iff.1 c).1
def Kept (n₀:Nat)(C:Nat->Prop)(W W':World):Prop:=Below n₀ W W'/\Ky C W W'
def Kept.t {C:Nat->Prop}(h:Kept n₀ C X Y)(k:Kept n₀ C Y Z):Kept n₀ C X Z:=⟨h.1.trans k.1,h.2.trans k.2⟩
def Kept.b {C:Nat->Prop}{w:World}(f:n₀<=w.heap.size)(W:World)(l:Nat)(o c:Obj)(hl:w.heap.size<=l)(h:W.heap[l]?=some o)(d:o.isCells=false)(g:o.isWalk=false):Kept n₀ C W (W.putObj l c):=
 ⟨belowK_b f W l o c hl h d g,Ky.putObj W c h d⟩
def Kept.refl (n₀:Nat)(C:Nat->Prop)(W:World):Kept n₀ C W W:=⟨Below.refl _ _,Ky.refl _ _⟩
def Kept.of_below {C:Nat->Prop}(b:n₀<=W.heap.size)(h:AO W W'):Kept n₀ C W W':=⟨h.mono b, .of_below h⟩
structure U1 (w:World)(P:Stil.B8->Prop) where
 net:Stil.B8
 av:Value
 kv:Value
 hav:Dj w av net.one.args
 hkv:Gg w kv net.kids
 mem:P net
structure Ti (w:World)(P:Stil.B9->Prop) where
 arm:Stil.B9
 av:Value
 nv:Value
 cv:Value
 kv:Value
 hav:Dj w av arm.net.one.args
 hnv:Gg w nv arm.net.kids
 hcv:Ir w cv arm.coils
 hkv:E8 w kv arm.kids
 mem:P arm
def Q8 (w:World)(C:Nat->Prop)(W:World)(v:Value)(l:List Stil.B8):Prop:=∃a cap,v=AE a l.length cap/\∀i (h:i<l.length),∃b o,a=some ⟨b,o,none⟩/\¬C b/\
 ∃d c,W.cell? ⟨b,o+i*4,none⟩=some (AB l[i].kind)/\W.cell? ⟨b,o+i*4+1,none⟩=some (AB l[i].one.op)/\W.cell? ⟨b,o+i*4+2,none⟩=some d/\W.cell? ⟨b,o+i*4+3,none⟩=some c/\Dj w d l[i].one.args/\Gg w c l[i].kids
theorem Q8.keep {w:World}{C:Nat->Prop}{l:List Stil.B8}(h:Q8 w C W v l)(d:Ky C W W'):Q8 w C W' v l:=by
 obtain⟨a,cap,g,t⟩:=h;refine⟨a,cap,g,λi hi=>?_⟩;obtain⟨b,o,x,c,k,f,y,q,u,z,s,j⟩:=t i hi;exact⟨b,o,x,c,k,f,d.cell c y,d.cell c q,d.cell c u,d.cell c z,s,j⟩
theorem Q8.of_at {w:World}{C:Nat->Prop}{l:List Stil.B8}(h:Gg w v l)(c:AO w W)(f:∀k,C k->w.heap.size<=k):Q8 w C W v l:=by
 obtain⟨a,cap,z,A⟩:=h;refine⟨a,cap,z,λi hi=>?_⟩;obtain⟨b,o,x,d,g⟩:=A i hi;obtain⟨G,t,s,j,D,y,u,q⟩:=g.open;exact⟨b,o,x,λh=>by have:=f b h;omega,s,j,(c.cell (p:=(AK b _)) d).trans G,(c.cell (p:=(AK b _)) d).trans t,(c.cell (p:=(AK b _)) d).trans D,(c.cell (p:=(AK b _)) d).trans y,u,q⟩
def Qa (w:World)(C:Nat->Prop)(W:World)(v:Value)(l:List Stil.B9):Prop:=∃a cap,v=AE a l.length cap/\∀i (h:i<l.length),∃b o,a=some ⟨b,o,none⟩/\¬C b/\
 ∃g d f c,W.cell? ⟨b,o+i*6,none⟩=some (AB l[i].net.kind)/\W.cell? ⟨b,o+i*6+1,none⟩=some (AB l[i].net.one.op)/\W.cell? ⟨b,o+i*6+2,none⟩=some g/\W.cell? ⟨b,o+i*6+3,none⟩=some d/\
  W.cell? ⟨b,o+i*6+4,none⟩=some f/\W.cell? ⟨b,o+i*6+5,none⟩=some c/\Dj w g l[i].net.one.args/\Gg w d l[i].net.kids/\Ir w f l[i].coils/\E8 w c l[i].kids
theorem Qa.keep {w:World}{C:Nat->Prop}{l:List Stil.B9}(h:Qa w C W v l)(d:Ky C W W'):Qa w C W' v l:=by
 obtain⟨a,cap,x,y⟩:=h;refine⟨a,cap,x,λi hi=>?_⟩;obtain⟨b,o,t,c,g,q,s,f,G,j,A,u,D,z,k⟩:=y i hi;exact⟨b,o,t,c,g,q,s,f,d.cell c G,d.cell c j,d.cell c A,d.cell c u,d.cell c D,d.cell c z,k⟩
theorem Qa.of_at {w:World}{C:Nat->Prop}{l:List Stil.B9}(h:E8 w v l)(c:AO w W)(f:∀k,C k->w.heap.size<=k):Qa w C W v l:=by
 obtain⟨a,cap,I,J⟩:=h;refine⟨a,cap,I,λi hi=>?_⟩;obtain⟨b,o,D,d,g⟩:=J i hi;obtain⟨u,A,j,M,K,y,H⟩:=g.open;obtain⟨N,t,s,z,L,G,x,q⟩:=u.open;exact⟨b,o,D,λh=>by have:=f b h;omega,s,z,A,j,(c.cell (p:=(AK b _)) d).trans N,(c.cell (p:=(AK b _)) d).trans t,(c.cell (p:=(AK b _)) d).trans L,(c.cell (p:=(AK b _)) d).trans G,(c.cell (p:=(AK b _)) d).trans M,(c.cell (p:=(AK b _)) d).trans K,x,q,y,H⟩
def X8 (h:KeepsFrom B W X)(p:Addr)(v:Value):KeepsFrom B W (X.setCell p v):=h.trans ((KeepsOthers.setCell X p v).from B)
theorem S9 (h:KeepsFrom B W X)(b:AO X Y):KeepsFrom B W Y:=h.trans ⟨b.size,λk _ _ c _=>(b.block k (Array.getElem?_eq_some_iff.1 c).1).trans c⟩
def Sz (h:KeepsFrom B W X):KeepsFrom B W X.drew:=h.trans ((KeepsOthers.drew X).from B)
def Ou (h:KeepsFrom B W X)(o:Obj):KeepsFrom B W (X.alloc o):=h.trans ((KeepsOthers.alloc X o).from B)
theorem QI {C:Nat->Prop}{b:Nat}(h:Kept n₀ C W X)(c:n₀<=b)(d:C b)(v:Value):Kept n₀ C W (X.setCell (AK b o) v):=⟨h.1.setCell (p:=(AK b o)) c v,h.2.set d v⟩
def Xl {C:Nat->Prop}(h:Kept n₀ C W X)(b:n₀<=W.heap.size)(c:AO X Y):Kept n₀ C W Y:=h.t (Kept.of_below (CM b h.2.size) c)
def Azj {C:Nat->Prop}(h:Kept n₀ C W X):Kept n₀ C W X.drew:=⟨h.1.drew,h.2.drew⟩
theorem P8 {b:Nat}(ob:Obj)(h:W.cell? (AK b o)=some v):(W.alloc ob).cell? (AK b o)=some v:=((Aa W ob).cell (p:=(AK b o)) (Bf h)).trans h
theorem Qm {b:Nat}(ob:Obj)(h:W.cell? (AK b o)=some v)(c:W.frozen? (AK b o)=false):(W.alloc ob).frozen? (AK b o)=false:=((Aa W ob).frozen (p:=(AK b o)) (Bf h)).trans c
def share {T G:Prop}(c:T->G)(b:T):G:=c b
theorem room_of_none (hd:F.depth=none)(k:Nat):F.room k:=λd h=>by rw[hd] at h;cases h
def RoundIn.anyDepth (hd:F.depth=none){m':Nat}{f:FuncId}{tmps:Array Value}{assign body:Code}{w:World}{R:Ending->World->Prop}
  (h:RoundIn F m P l f tmps assign body w R):RoundIn F m' P l f tmps assign body w R:=⟨h.1,λc b _=>h.2 c b (room_of_none hd _)⟩
def YieldAt.anyDepth (hd:F.depth=none)(m':Nat){args:Array Value}{R:Ending->World->Prop}(h:YieldAt F m P l args W R):YieldAt F m' P l args W R:=by
 obtain⟨c,f,assign,body,b,d⟩:=h;exact⟨c,f,assign,body,b,RoundIn.anyDepth hd d⟩
theorem Ec {o:Oper}{w:World}{K:Act->World->Prop}{Q:Exit->Act->World->Prop}
  (hg:o.guard=none) (s x:Operand) (t:TypeId) (q:o.op=.call {callee:=.builtin .append,args:=#[s,x],argTypes:=#[t,t]})
  (base:Nat) (e:TypeId) (i:TypeInfo) (z:Value) (size bytes:Nat) (N:P.underlying t=some (.slice e)) (hi:P.info? e=some i) (R:i.zero=some z)
  (I:i.size=size) (y:i.bytes=bytes) (D:z.cells.size=size) (h:0<size)
  (v:Value) (n:Nat) (xs:List Value) (L:a.eval s=v) (H:w.ownsRow base e size v n xs)
  (ad:Addr) (m c:Nat) (news:List Value) (hx:a.eval x=.slice (some ad) m c) (hl:news.length=m*size) (O:∀j u,news[j]?=some u->w.cell? (ad.add j)=some u) (h1:∀u∈news,u.oneCell'=true)
  (J:n+m<=maxLen) (d:(n+m)*bytes<=140737488355328) (k:base<=w.heap.size)
  (M:∀b w',w'.ownsRow base e size b (n+m) (xs++news)->w.grownBy w' v.ownBlock->(b.ownBlock=v.ownBlock\/b.ownBlock=some w.heap.size)->K (a.put o.dst b) w'):
  if Region.wanted o (yielded ops a.tmps)=true then Oper.wp P o a w K Q else E:=by
 have C:Region.wanted o (yielded ops a.tmps)=true:=by simp[Region.wanted,hg]
 rw[if_pos C];obtain⟨b,w',G,f,A,S,g⟩:=run_append_own_at (P:=P) w base t o.type e i z size bytes N hi R I y D h v n xs H ad m c news hl O h1 J d k;unfold Oper.wp execOp;simp only[q,resolve,invoke,builtin,Sem.run_bind,Sem.run_pure,Result.andThen_ok,ES,CQ,C6,L,hx,G];exact M b w' f A g
theorem T9 {w:World}{b:Nat}{c:List Stil.CC}(h:∀i (h:i<c.length),Ju w b (o+i*3) c[i]):∀j u,(Ar c)[j]?=some u->w.cell? (((AK b o):Addr).add j)=some u:=by
 intro j u hu;have s:=(List.getElem?_eq_some_iff.1 hu).1;have C:(Ar c).length=c.length*3:=by
  clear hu s h;induction c with
  | nil=>rfl
  | cons d r t=>have e:Ar (d::r)=AB d.kind::AB d.n::AB d.p::Ar r:=rfl;rw[e];simp[t];omega
 have hi:j / 3<c.length:=AQ
 obtain⟨q,g,k⟩:=Nw c (j / 3) hi;obtain⟨z,A,x⟩:=h (j / 3) hi;rw[Addr.add_lit];have y:j=j / 3*3\/j=j / 3*3+1\/j=j / 3*3+2:=AQ
 rcases y with e | e | e
 ·rw[e] at hu
  rw[hu] at q;have f:o+j=o+j / 3*3:=AQ
  rw[f,z];exact q.symm
 ·rw[e] at hu
  rw[hu] at g;have f:o+j=o+j / 3*3+1:=AQ
  rw[f,A];exact g.symm
 ·rw[e] at hu
  rw[hu] at k;have f:o+j=o+j / 3*3+2:=AQ
  rw[f,x];exact k.symm
theorem Du {w:World}{b:Nat}(h:w.grownBy w' r)(c:b<w.heap.size)(d:r≠some b):w'.cell? (AK b o)=w.cell? (AK b o):=by
 simp only[World.cell?,h.block b c (λe=>d e.symm)]
theorem Ie {w:World}{b:Nat}(h:w.grownBy w' r)(c:b<w.heap.size)(d:r≠some b):w'.frozen? (AK b o)=w.frozen? (AK b o):=by
 simp only[World.frozen?,h.block b c (λe=>d e.symm)]
theorem Af {w:World}{s:Nat}(h:w.ownsRow base e s v n xs):∃a cap,v=.slice a n cap:=by
 rcases h.2 with⟨b,d⟩ | ⟨g,c,cur,b,_⟩
 ·exact⟨none,0,by rw[b,d]⟩
 ·exact⟨_,_,b⟩
theorem OG (op:Int)(v:Value)(c:List Stil.CC)(w:World)(Q:Dj w v c)(hl:c.length<=1048576):
  Calls prog 20 #[.agg #[AB op,v]] w λe w'=>∃u,e=.returned (.agg #[AB op,u])/\w'.ownsRow w.heap.size 111 3 u c.length (Ar c)/\AO w w':=by
 obtain⟨K,hi,O,N,ac⟩:=info_parts P3;obtain⟨a,cap,rfl,q⟩:=Q;by_cases hd:c.length=0
 ·obtain rfl:c=[]:=List.length_eq_zero_iff.1 hd
  clear q;have R:∀W:World,W.ownsRow w.heap.size 111 3 AG 0 []:=λW=>⟨rfl,Or.inl ⟨rfl,rfl⟩⟩
  cases a;all_goals
   go_enter func20,ntmps20
   go_upto_region 1 with fail
   go_region
   all_goals go_wp2
   all_goals exact bodyPost_ret (v:=.agg #[AB op,AG]) (by simp[results,results20,go_sem]) rfl ⟨_,rfl,R _,AW⟩
 ·obtain⟨b,o,rfl,I,_⟩:=q 0 AQ
  have A:∀i (h:i<c.length),Ju w b (o+i*3) c[i]:=by
   intro i h;obtain⟨b1,o1,G,_,h1⟩:=q i h;simp only[C0,Addr.mk.injEq,FG] at G;obtain⟨rfl,rfl⟩:=G;exact h1
  have y:Hid (∀W,AO w W->∀j u,(Ar c)[j]?=some u->W.cell? (((AK b o):Addr).add j)=some u):=by
   intro W d;exact T9 (λi h=>(A i h).below d I)
  clear q A;go_enter func20,ntmps20;obtain⟨W,d⟩:=AA ((w.alloc (.cells #[AB op,AE (some (AK b o)) c.length cap] 46)).alloc (.cells #[AB 0,AG] 46))
  have t:W.heap.size=w.heap.size+2:=by rw[d];simp
  have L:W.cell? (AL w 0)=some (AB op):=by rw[d];simp[go_sem]
  have q1:W.cell? (AL w 1)=some (AE (some (AK b o)) c.length cap):=by rw[d];simp[go_sem]
  have q2:W.cell? (AK (w.heap.size+1) 0)=some (AB 0):=by rw[d];simp[go_sem]
  have q3:W.cell? (AK (w.heap.size+1) 1)=some AG:=by rw[d];simp[go_sem]
  have M:W.frozen? (AK (w.heap.size+1) 0)=false:=by rw[d];simp[go_sem]
  have T:W.frozen? (AK (w.heap.size+1) 1)=false:=by rw[d];simp[go_sem]
  have x:AO w W:=by rw[d];exact Bi (Aa _ _) _
  have C:=y W x;have U:=AV C;have bG:=AV t;clear C;go_upto_region 1 with fail
  rw[<-d];clear d t y
  go_region_law (refine Ec rfl _ _ 44 rfl (w.heap.size+2) 111 K (.agg #[AB 0,AB 0,AB 0]) 3 24 underlying44 hi O N ac rfl AY AG 0 [] rfl ⟨rfl,Or.inl ⟨rfl,rfl⟩⟩ _ _ _ (Ar c) rfl (Kv c) (by exact U.out) (Xo c) A6 AQ (by have:=bG.out;simp only[World.size_drew];omega) ?_;intro v' g z f aV;obtain⟨s,D,ae⟩:=Af z;subst ae;have af:w.heap.size+1<g.heap.size:=(by have h1:=bG.out;have J:=f.size;simp at J;omega);have g0:g.cell? (AL w 0)=some (AB op):=(Du f yDa yDh).trans (by simpa using L);have H:g.cell? (AK (w.heap.size+1) 0)=some (AB 0):=(Du f yDa yDh).trans (by simpa using q2);have g3:g.cell? (AK (w.heap.size+1) 1)=some AG:=(Du f yDa yDh).trans (by simpa using q3);have y2:g.frozen? (AK (w.heap.size+1) 0)=false:=(Ie f yDa yDh).trans (by simpa using M);have y3:g.frozen? (AK (w.heap.size+1) 1)=false:=(Ie f yDa yDh).trans (by simpa using T))
  all_goals go_wp2
  all_goals
   refine bodyPost_ret (v:=.agg #[AB op,AE s (0+c.length) D]) (by simp[results,results20,go_sem,H,g3]) rfl ⟨_,rfl,?_,?_⟩
   ·have V:=ownsRow_setCell_below (a:=(AK (w.heap.size+1) 1)) (ownsRow_setCell_below (a:=(AK (w.heap.size+1) 0)) z (DV _) (AB op)) (DV _) (AE s (0+c.length) D)
    have h1:=Joins.ownsRow_le V (show w.heap.size<=w.heap.size+2 by omega);simpa using h1
   ·have ab:=(Below.refl W.heap.size W).drew.grown f (CG _) (λk S=>by simp[Value.ownBlock] at S)
    have aa:=x.trans (ab.mono yGa);exact(aa.setCell AU _).setCell AU _
def PP (w:World)(r:Option Nat):w.grownBy w r:=⟨rfl,rfl,rfl,CG _,λ_ _ _=>rfl⟩
theorem Su {o:Oper}{w:World}{K:Act->World->Prop}{Q:Exit->Act->World->Prop}
  (hg:o.guard=none) (s x:Operand) (j:o.op=.call {callee:=.builtin .append,args:=#[s,x],argTypes:=#[44,44]})
  (base:Nat) (N:Nat) (c:List Stil.CC) (q:a.eval s=AE (some (AK N 0)) 0 0) (u:w.ownsRow base 111 3 (AE (some (AK N 0)) 0 0) 0 [])
  (k:Option Addr) (g:Nat) (hx:a.eval x=AE k c.length g) (O:Dj w (AE k c.length g) c) (hl:c.length<=1048576) (M:base<=w.heap.size)
  (A:∀f w',w'.ownsRow base 111 3 f c.length (Ar c)->w.grownBy w' (some N)->K (a.put o.dst f) w'):
  if Region.wanted o (yielded ops a.tmps)=true then Oper.wp prog o a w K Q else E:=by
 obtain⟨I,hi,L,J,T⟩:=info_parts P3;by_cases hd:c.length=0
 ·have D:=List.length_eq_zero_iff.1 hd
  subst D;have R:Region.wanted o (yielded ops a.tmps)=true:=by simp[Region.wanted,hg]
  rw[if_pos R];have t:=A _ w u (PP _ _);unfold Oper.wp execOp;cases k
  ·have e:Sem.run prog (Builtin.append_ #[44,44] o.type #[AE (some (AK N 0)) 0 0,AE none 0 g]) w=.ok (AE (some (AK N 0)) 0 0) w:=by simp[Builtin.append_,go_sem]
   simp only[j,resolve,invoke,builtin,Sem.run_bind,Sem.run_pure,Result.andThen_ok,ES,CQ,C6,q,hx,CP,e];exact t
  ·rename_i G
   have e:Sem.run prog (Builtin.append_ #[44,44] o.type #[AE (some (AK N 0)) 0 0,AE (some G) 0 g]) w=.ok (AE (some (AK N 0)) 0 0) w:=by simp[Builtin.append_,go_sem]
   simp only[j,resolve,invoke,builtin,Sem.run_bind,Sem.run_pure,Result.andThen_ok,ES,CQ,C6,q,hx,CP,e];exact t
 ·obtain⟨a1,c1,y,z⟩:=O
  simp only[Value.slice.injEq] at y;obtain⟨rfl,_,rfl⟩:=y;obtain⟨b,U,rfl,V,_⟩:=z 0 AQ;have S:∀i (h:i<c.length),Ju w b (U+i*3) c[i]:=by
   intro i h;obtain⟨b1,o2,C,_,d⟩:=z i h;simp only[C0,Addr.mk.injEq,FG] at C;obtain⟨rfl,rfl⟩:=C;exact d
  refine Ec hg s x _ j base 111 I _ 3 24 underlying44 hi L J T rfl AY _ 0 [] q u _ _ _ (Ar c) hx (Kv c) (T9 S) (Xo c) A6 AQ M ?_;intro f w' d H _;rw[CV,C5] at d;exact A f w' d H
