import Derived.Test.YtfeablpbkcgdjaaGreatDoorGC
import Derived.RangeFuncNested
import Derived.RangeFuncBound
import Derived.Shelf.Abstract
set_option linter.defProp false
set_option maxHeartbeats 4000000
set_option maxRecDepth 100000
namespace Go.Proofs.YtfeablpbkcgdjaaGreatDoor
open Tryz Stil Go.RowKit Go.Sort Go.BigFrame
section
variable {B l m n₀ o p:Nat}{F:Fence}{P:Program}{W W' X Y Z w':World}{r:Option Nat}{v:Value}
def N9 (w:World):Nat->Nat->Stil.B1->Prop
 | b,o,⟨k,e,kids⟩=>w.cell? ⟨b,o,none⟩=some (.int .i64 k)/\w.cell? ⟨b,o+1,none⟩=some (.int .i64 e.op)/\
   (∃d,w.cell? ⟨b,o+2,none⟩=some d/\Ak w d e.args)/\
   ∃a cap,w.cell? ⟨b,o+3,none⟩=some (.slice a kids.length cap)/\∀i (h:i<kids.length),∃c f,a=some ⟨c,f,none⟩/\c<w.heap.size/\
    (have:=IW (CG h);N9 w c (f+i*4) kids[i])
def LY (w:World)(b o:Nat)(k:Int)(e:Stil.Elem)(kids:List Stil.B1):N9 w b o ⟨k,e,kids⟩=(w.cell? ⟨b,o,none⟩=some (.int .i64 k)/\w.cell? ⟨b,o+1,none⟩=some (.int .i64 e.op)/\
   (∃d,w.cell? ⟨b,o+2,none⟩=some d/\Ak w d e.args)/\
   ∃a cap,w.cell? ⟨b,o+3,none⟩=some (.slice a kids.length cap)/\∀i (h:i<kids.length),∃c f,a=some ⟨c,f,none⟩/\c<w.heap.size/\N9 w c (f+i*4) kids[i]):=by rw[N9]
def Eo (w:World)(v:Value)(ns:List Stil.B1):Prop:=∃a cap,v=.slice a ns.length cap/\∀i (h:i<ns.length),∃b o,a=some ⟨b,o,none⟩/\b<w.heap.size/\N9 w b (o+i*4) ns[i]
def xR (w:World)(b o:Nat)(k:Int)(e:Stil.Elem)(kids:List Stil.B1):N9 w b o ⟨k,e,kids⟩↔(w.cell? ⟨b,o,none⟩=some (.int .i64 k)/\w.cell? ⟨b,o+1,none⟩=some (.int .i64 e.op)/\
   (∃i,w.cell? ⟨b,o+2,none⟩=some i/\Ak w i e.args)/\∃j,w.cell? ⟨b,o+3,none⟩=some j/\Eo w j kids):=by
 rw[LY];constructor
 .rintro⟨h,f,c,a,cap,d,g⟩;exact⟨h,f,c,_,d,a,cap,rfl,g⟩
 .rintro⟨h,f,c,_,d,a,cap,rfl,g⟩;exact⟨h,f,c,a,cap,d,g⟩
def zk0 {p:Prop}(h:p:=by
 obtain⟨b',o',ha,hl',hn⟩:=h6 i hi
 exact⟨b',o',ha,B8 hl' hb.size,ih _ (CG hi) b' _ hn hl'⟩):p:=h
theorem N9.below {w:World}(hb:Below w.heap.size w w'):∀(n:Stil.B1) (b o:Nat),N9 w b o n->b<w.heap.size->N9 w' b o n:=by
 intro n;induction n using Fv with
 | h k e kids ih=>
  intro b o h c;rw[LY] at h ⊢;obtain⟨s,j,⟨g,d,f⟩,a,cap,q,h6⟩:=h;refine⟨?_,?_,⟨g,?_,f.below hb⟩,a,cap,?_,λi hi=>?_⟩
  .rw[hb.cell (p:=⟨b,o,none⟩) c];exact s
  .rw[hb.cell (p:=⟨b,o+1,none⟩) c];exact j
  .rw[hb.cell (p:=⟨b,o+2,none⟩) c];exact d
  .rw[hb.cell (p:=⟨b,o+3,none⟩) c];exact q
  .exact zk0
theorem Eo.below {w:World}{ns:List Stil.B1}(h:Eo w v ns)(c:Below w.heap.size w w'):Eo w' v ns:=by
 obtain⟨a,cap,j,f⟩:=h;refine⟨a,cap,j,λi hi=>?_⟩;obtain⟨b,o,g,d,e⟩:=f i hi;exact⟨b,o,g,B8 d c.size,N9.below c _ _ _ e d⟩
def IF (w:World)(b o:Nat)(e:Stil.Elem):Prop:=w.cell? ⟨b,o,none⟩=some (.int .i64 e.op)/\∃a,w.cell? ⟨b,o+1,none⟩=some a/\Ak w a e.args
def F6 (w:World)(v:Value)(es:List Stil.Elem):Prop:=∃a cap,v=.slice a es.length cap/\∀i (h:i<es.length),∃b o,a=some ⟨b,o,none⟩/\b<w.heap.size/\IF w b (o+i*2) es[i]
theorem IF.below {w:World}{b:Nat}{e:Stil.Elem}(h:IF w b o e)(a:Below w.heap.size w w')(c:b<w.heap.size):IF w' b o e:=by
 obtain⟨i,d,g,f⟩:=h;exact⟨by rw[a.cell (p:=⟨b,o,none⟩) c];exact i,d,by rw[a.cell (p:=⟨b,o+1,none⟩) c];exact g,f.below a⟩
def zBa {p:Prop}(h:p:=by
 obtain⟨a,cap,hv,hc⟩:=h;refine⟨a,cap,hv,λi hi=>?_⟩;obtain⟨b,o,ha,hlt,hn⟩:=hc i hi;exact⟨b,o,ha,B8 hlt hb.size,hn.below hb hlt⟩):p:=h
def F6.below {w:World}{es:List Stil.Elem}(h:F6 w v es)(hb:Below w.heap.size w w'):F6 w' v es:=by
 exact zBa
def P5 (w:World):Nat->Nat->Stil.B5->Prop
 | b,o,⟨n,f,kids⟩=>N9 w b o n/\(∃d,w.cell? ⟨b,o+4,none⟩=some d/\F6 w d f)/\
   ∃a cap,w.cell? ⟨b,o+5,none⟩=some (.slice a kids.length cap)/\∀i (h:i<kids.length),∃c e,a=some ⟨c,e,none⟩/\c<w.heap.size/\
    (have:=IW (CG h);P5 w c (e+i*6) kids[i])
def Ln (w:World)(b o:Nat)(n:Stil.B1)(e:List Stil.Elem)(kids:List Stil.B5):P5 w b o ⟨n,e,kids⟩=(N9 w b o n/\(∃f,w.cell? ⟨b,o+4,none⟩=some f/\F6 w f e)/\
   ∃a cap,w.cell? ⟨b,o+5,none⟩=some (.slice a kids.length cap)/\∀i (h:i<kids.length),∃c d,a=some ⟨c,d,none⟩/\c<w.heap.size/\P5 w c (d+i*6) kids[i]):=by rw[P5]
def Dc (w:World)(v:Value)(l:List Stil.B5):Prop:=∃a cap,v=.slice a l.length cap/\∀i (h:i<l.length),∃b o,a=some ⟨b,o,none⟩/\b<w.heap.size/\P5 w b (o+i*6) l[i]
theorem P5.below {w:World}(hb:Below w.heap.size w w'):∀(n:Stil.B5) (b o:Nat),P5 w b o n->b<w.heap.size->P5 w' b o n:=by
 intro n;induction n using Fb with
 | h n k kids ih=>
  intro b o h c;rw[Ln] at h ⊢;obtain⟨g,⟨f,d,e⟩,a,cap,j,h6⟩:=h;refine⟨N9.below hb _ _ _ g c,⟨f,?_,e.below hb⟩,a,cap,?_,λi hi=>?_⟩
  .rw[hb.cell (p:=⟨b,o+4,none⟩) c];exact d
  .rw[hb.cell (p:=⟨b,o+5,none⟩) c];exact j
  .exact zk0
theorem Dc.below {w:World}{ns:List Stil.B5}(h:Dc w v ns)(c:Below w.heap.size w w'):Dc w' v ns:=by
 obtain⟨a,cap,j,f⟩:=h;refine⟨a,cap,j,λi hi=>?_⟩;obtain⟨b,o,g,d,e⟩:=f i hi;exact⟨b,o,g,B8 d c.size,P5.below c _ _ _ e d⟩
def N9.open {w:World}{b:Nat}{n:Stil.B1}(h:N9 w b o n):w.cell? ⟨b,o,none⟩=some (.int .i64 n.kind)/\w.cell? ⟨b,o+1,none⟩=some (.int .i64 n.one.op)/\
   ∃a c,w.cell? ⟨b,o+2,none⟩=some a/\w.cell? ⟨b,o+3,none⟩=some c/\Ak w a n.one.args/\Eo w c n.kids:=by
 obtain⟨k,e,kids⟩:=n;obtain⟨q,i,⟨a,d,f⟩,c,j,g⟩:=(xR _ _ _ _ _ _).1 h;exact⟨q,i,a,c,d,j,f,g⟩
def P5.open {w:World}{b:Nat}{n:Stil.B5}(h:P5 w b o n):N9 w b o n.net/\∃c d,w.cell? ⟨b,o+4,none⟩=some c/\w.cell? ⟨b,o+5,none⟩=some d/\F6 w c n.coils/\Dc w d n.kids:=by
 obtain⟨n,k,kids⟩:=n;rw[Ln] at h;obtain⟨j,⟨c,e,f⟩,a,cap,i,g⟩:=h;exact⟨j,c,_,e,i,f,a,cap,rfl,g⟩
theorem Dz {b c:Nat}(h:c≠b):(W.setCell ⟨b,o,none⟩ v).cell? ⟨c,p,none⟩=W.cell? ⟨c,p,none⟩:=by
 simp[go_sem]
theorem Eg {b:Nat}(h:p≠o):(W.setCell ⟨b,o,none⟩ v).cell? ⟨b,p,none⟩=W.cell? ⟨b,p,none⟩:=by
 simp[go_sem]
theorem Fp {b:Nat}{u:Value}(h:W.cell? ⟨b,o,none⟩=some u):(W.setCell ⟨b,o,none⟩ v).cell? ⟨b,o,none⟩=some v:=by
 simp[go_sem,h]
def Jm (W:World)(p:Addr)(v:Value):W.heap.size<=(W.setCell p v).heap.size:=((Below.refl 0 W).setCell (DK _) v).size
structure Jf (C:Nat->Prop)(W W':World):Prop where
 size:W.heap.size<=W'.heap.size
 same:∀(k:Nat) (o:Obj),¬C k->W.heap[k]?=some o->o.isCells=true->W'.heap[k]?=some o
def Jf.refl (C:Nat->Prop)(W:World):Jf C W W:=⟨B7 _,λ_ _ _ h _=>h⟩
theorem Jf.trans {C:Nat->Prop}(h:Jf C X Y)(k:Jf C Y Z):Jf C X Z:=⟨CB h.size k.size,λi o a hi b=>k.same i o a (h.same i o a hi b) b⟩
abbrev Jf.tr:=@Jf.trans
def Jf.of_below {C:Nat->Prop}(h:Below W.heap.size W W'):Jf C W W':=
 ⟨h.size,λk _ _ a _=>(h.block k (Array.getElem?_eq_some_iff.1 a).1).trans a⟩
def Jf.drew {C:Nat->Prop}(h:Jf C W W'):Jf C W W'.drew:=⟨h.size,h.same⟩
def Jf.call {C:Nat->Prop}(h:Jf C W X)(a:Below X.heap.size X Y):Jf C W Y:=h.trans (.of_below a)
def Jf.set {C:Nat->Prop}{b:Nat}(h:Jf C W W')(a:C b)(v:Value):Jf C W (W'.setCell ⟨b,o,none⟩ v):=
 h.trans ⟨by simp[World.setCell],λk _ c d _=>(Below.heap_setCell W' ⟨b,o,none⟩ v k (λe=>c (by rw[e];exact a))).trans d⟩
theorem Jf.putObj {C:Nat->Prop}(W:World){o:Obj}(c:Obj)(h:W.heap[l]?=some o)(d:o.isCells=false):Jf C W (W.putObj l c):=
 ⟨by simp[World.putObj],λk p _ a b=>by
  by_cases e:k=l
  .subst e
   rw[h] at a;cases a;rw[d] at b;cases b
  .rw[World.putObj_heap_other e];exact a⟩
theorem Jf.cell {C:Nat->Prop}(h:Jf C W W'){b:Nat}(d:¬C b)(a:W.cell? ⟨b,o,none⟩=some v):W'.cell? ⟨b,o,none⟩=some v:=by
 obtain⟨p,c,e⟩:=cells_of_cell a;exact(World.cell?_of_block (w:=W) ((h.same b p d c e).trans c.symm)).trans a
theorem Aq {b:Nat}(h:W.cell? ⟨b,o,none⟩=some v):b<W.heap.size:=by
 obtain⟨p,a,_⟩:=cells_of_cell h;exact(Array.getElem?_eq_some_iff.1 a).1
def Kept (n₀:Nat)(C:Nat->Prop)(W W':World):Prop:=Below n₀ W W'/\Jf C W W'
def Kept.t {C:Nat->Prop}(h:Kept n₀ C X Y)(k:Kept n₀ C Y Z):Kept n₀ C X Z:=⟨h.1.trans k.1,h.2.trans k.2⟩
def Kept.b {C:Nat->Prop}{w:World}(d:n₀<=w.heap.size)(W:World)(l:Nat)(o a:Obj)(hl:w.heap.size<=l)(h:W.heap[l]?=some o)(c:o.isCells=false)(e:o.isWalk=false):Kept n₀ C W (W.putObj l a):=
 ⟨belowK_b d W l o a hl h c e,Jf.putObj W a h c⟩
def Kept.refl (n₀:Nat)(C:Nat->Prop)(W:World):Kept n₀ C W W:=⟨Below.refl _ _,Jf.refl _ _⟩
def Kept.of_below {C:Nat->Prop}(a:n₀<=W.heap.size)(h:Below W.heap.size W W'):Kept n₀ C W W':=⟨h.mono a, .of_below h⟩
structure Ro (w:World)(P:Stil.B1->Prop) where
 net:Stil.B1
 av:Value
 kv:Value
 hav:Ak w av net.one.args
 hkv:Eo w kv net.kids
 mem:P net
structure P7 (w:World)(P:Stil.B5->Prop) where
 arm:Stil.B5
 av:Value
 nv:Value
 cv:Value
 kv:Value
 hav:Ak w av arm.net.one.args
 hnv:Eo w nv arm.net.kids
 hcv:F6 w cv arm.coils
 hkv:Dc w kv arm.kids
 mem:P arm
def Nz (w:World)(C:Nat->Prop)(W:World)(v:Value)(l:List Stil.B1):Prop:=∃a cap,v=.slice a l.length cap/\∀i (h:i<l.length),∃b o,a=some ⟨b,o,none⟩/\¬C b/\
 ∃c d,W.cell? ⟨b,o+i*4,none⟩=some (.int .i64 l[i].kind)/\W.cell? ⟨b,o+i*4+1,none⟩=some (.int .i64 l[i].one.op)/\W.cell? ⟨b,o+i*4+2,none⟩=some c/\W.cell? ⟨b,o+i*4+3,none⟩=some d/\Ak w c l[i].one.args/\Eo w d l[i].kids
theorem Nz.keep {w:World}{C:Nat->Prop}{l:List Stil.B1}(h:Nz w C W v l)(d:Jf C W W'):Nz w C W' v l:=by
 obtain⟨a,cap,x,e⟩:=h;refine⟨a,cap,x,λi hi=>?_⟩;obtain⟨b,o,t,c,q,j,g,n,s,f,k,u⟩:=e i hi;exact⟨b,o,t,c,q,j,d.cell c g,d.cell c n,d.cell c s,d.cell c f,k,u⟩
theorem Nz.of_at {w:World}{C:Nat->Prop}{l:List Stil.B1}(h:Eo w v l)(c:Below w.heap.size w W)(j:∀k,C k->w.heap.size<=k):Nz w C W v l:=by
 obtain⟨a,cap,s,t⟩:=h;refine⟨a,cap,s,λi hi=>?_⟩;obtain⟨b,o,n,d,e⟩:=t i hi;obtain⟨x,z,g,f,A,u,y,q⟩:=e.open;exact⟨b,o,n,λh=>by have:=j b h;omega,g,f,(c.cell (p:=⟨b,_,none⟩) d).trans x,(c.cell (p:=⟨b,_,none⟩) d).trans z,(c.cell (p:=⟨b,_,none⟩) d).trans A,(c.cell (p:=⟨b,_,none⟩) d).trans u,y,q⟩
def Ls (w:World)(C:Nat->Prop)(W:World)(v:Value)(l:List Stil.B5):Prop:=∃a cap,v=.slice a l.length cap/\∀i (h:i<l.length),∃b o,a=some ⟨b,o,none⟩/\¬C b/\
 ∃c d f e,W.cell? ⟨b,o+i*6,none⟩=some (.int .i64 l[i].net.kind)/\W.cell? ⟨b,o+i*6+1,none⟩=some (.int .i64 l[i].net.one.op)/\W.cell? ⟨b,o+i*6+2,none⟩=some c/\W.cell? ⟨b,o+i*6+3,none⟩=some d/\
  W.cell? ⟨b,o+i*6+4,none⟩=some f/\W.cell? ⟨b,o+i*6+5,none⟩=some e/\Ak w c l[i].net.one.args/\Eo w d l[i].net.kids/\F6 w f l[i].coils/\Dc w e l[i].kids
theorem Ls.keep {w:World}{C:Nat->Prop}{l:List Stil.B5}(h:Ls w C W v l)(d:Jf C W W'):Ls w C W' v l:=by
 obtain⟨a,cap,q,s⟩:=h;refine⟨a,cap,q,λi hi=>?_⟩;obtain⟨b,o,n,c,j,e,x,g,u,z,A,t,k,f,y⟩:=s i hi;exact⟨b,o,n,c,j,e,x,g,d.cell c u,d.cell c z,d.cell c A,d.cell c t,d.cell c k,d.cell c f,y⟩
theorem Ls.of_at {w:World}{C:Nat->Prop}{l:List Stil.B5}(h:Dc w v l)(c:Below w.heap.size w W)(u:∀k,C k->w.heap.size<=k):Ls w C W v l:=by
 obtain⟨a,cap,z,A⟩:=h;refine⟨a,cap,z,λi hi=>?_⟩;obtain⟨b,o,x,d,e⟩:=A i hi;obtain⟨K,G,q,t,n,f,g⟩:=e.open;obtain⟨E,I,s,j,J,D,H,y⟩:=K.open;exact⟨b,o,x,λh=>by have:=u b h;omega,s,j,G,q,(c.cell (p:=⟨b,_,none⟩) d).trans E,(c.cell (p:=⟨b,_,none⟩) d).trans I,(c.cell (p:=⟨b,_,none⟩) d).trans J,(c.cell (p:=⟨b,_,none⟩) d).trans D,(c.cell (p:=⟨b,_,none⟩) d).trans t,(c.cell (p:=⟨b,_,none⟩) d).trans n,H,y,f,g⟩
def Vy (h:KeepsFrom B W X)(p:Addr)(v:Value):KeepsFrom B W (X.setCell p v):=h.trans ((KeepsOthers.setCell X p v).from B)
def Qa (h:KeepsFrom B W X)(a:Below X.heap.size X Y):KeepsFrom B W Y:=h.trans ⟨a.size,λk _ _ b _=>(a.block k (Array.getElem?_eq_some_iff.1 b).1).trans b⟩
def P9 (h:KeepsFrom B W X):KeepsFrom B W X.drew:=h.trans ((KeepsOthers.drew X).from B)
def Lp (h:KeepsFrom B W X)(o:Obj):KeepsFrom B W (X.alloc o):=h.trans ((KeepsOthers.alloc X o).from B)
theorem OQ {C:Nat->Prop}{b:Nat}(h:Kept n₀ C W X)(a:n₀<=b)(c:C b)(v:Value):Kept n₀ C W (X.setCell ⟨b,o,none⟩ v):=⟨h.1.setCell (p:=⟨b,o,none⟩) a v,h.2.set c v⟩
def Vf {C:Nat->Prop}(h:Kept n₀ C W X)(b:n₀<=W.heap.size)(a:Below X.heap.size X Y):Kept n₀ C W Y:=h.t (Kept.of_below (CB b h.2.size) a)
def ve {C:Nat->Prop}(h:Kept n₀ C W X):Kept n₀ C W X.drew:=⟨h.1.drew,h.2.drew⟩
theorem Nw {b:Nat}(ob:Obj)(h:W.cell? ⟨b,o,none⟩=some v):(W.alloc ob).cell? ⟨b,o,none⟩=some v:=((Aa W ob).cell (p:=⟨b,o,none⟩) (Aq h)).trans h
theorem Ot {b:Nat}(ob:Obj)(h:W.cell? ⟨b,o,none⟩=some v)(a:W.frozen? ⟨b,o,none⟩=false):(W.alloc ob).frozen? ⟨b,o,none⟩=false:=((Aa W ob).frozen (p:=⟨b,o,none⟩) (Aq h)).trans a
def share {T G:Prop}(b:T->G)(a:T):G:=b a
theorem room_of_none (hd:F.depth=none)(k:Nat):F.room k:=λd h=>by rw[hd] at h;cases h
def RoundIn.anyDepth (hd:F.depth=none){m':Nat}{f:FuncId}{tmps:Array Value}{assign body:Code}{w:World}{R:Ending->World->Prop}
  (h:RoundIn F m P l f tmps assign body w R):RoundIn F m' P l f tmps assign body w R:=⟨h.1,λc a _=>h.2 c a (room_of_none hd _)⟩
def YieldAt.anyDepth (hd:F.depth=none)(m':Nat){args:Array Value}{R:Ending->World->Prop}(h:YieldAt F m P l args W R):YieldAt F m' P l args W R:=by
 obtain⟨a,c,assign,body,b,d⟩:=h;exact⟨a,c,assign,body,b,RoundIn.anyDepth hd d⟩
theorem jN {w:World}{b:Nat}{ds:List Stil.B9}(h:∀i (h:i<ds.length),Iz w b (o+i*3) ds[i]):∀j u,(Bv ds)[j]?=some u->w.cell? ((⟨b,o,none⟩:Addr).add j)=some u:=by
 intro j u hu;have t:=(List.getElem?_eq_some_iff.1 hu).1;have z:(Bv ds).length=ds.length*3:=by
  clear hu t h;induction ds with
  | nil=>rfl
  | cons d r y=>have e:Bv (d::r)=.int .i64 d.kind::.int .i64 d.n::.int .i64 d.p::Bv r:=rfl;rw[e];simp[y];omega
 have hi:j / 3<ds.length:=AU
 obtain⟨g,c,f⟩:=Qm ds (j / 3) hi;obtain⟨s,k,x⟩:=h (j / 3) hi;rw[Addr.add_lit];have q:j=j / 3*3\/j=j / 3*3+1\/j=j / 3*3+2:=AU
 rcases q with e | e | e
 .rw[e] at hu
  rw[hu] at g;have a:o+j=o+j / 3*3:=AU
  rw[a,s];exact g.symm
 .rw[e] at hu
  rw[hu] at c;have a:o+j=o+j / 3*3+1:=AU
  rw[a,k];exact c.symm
 .rw[e] at hu
  rw[hu] at f;have a:o+j=o+j / 3*3+2:=AU
  rw[a,x];exact f.symm
def Fj {w:World}{b:Nat}(h:w.grownBy w' r)(a:b<w.heap.size)(c:r≠some b):w'.cell? ⟨b,o,none⟩=w.cell? ⟨b,o,none⟩:=by
 simp only[World.cell?,h.block b a (λe=>c e.symm)]
def Kr {w:World}{b:Nat}(h:w.grownBy w' r)(a:b<w.heap.size)(c:r≠some b):w'.frozen? ⟨b,o,none⟩=w.frozen? ⟨b,o,none⟩:=by
 simp only[World.frozen?,h.block b a (λe=>c e.symm)]
theorem Zp {w:World}{base s n:Nat}{e:TypeId}{xs:List Value}(h:w.ownsRow base e s v n xs):∃a cap,v=.slice a n cap:=by
 rcases h.2 with⟨b,d⟩ | ⟨g,c,cur,b,_⟩
 .exact⟨none,0,by rw[b,d]⟩
 .exact⟨_,_,b⟩
end
def Qk (l:List Nat)(i:Nat)(h:i<l.length):(l.take (i+1)).sum=(l.take i).sum+l[i]:=by
 rw[DO h,FX,Da,IV,GI]
theorem I8:∀(l:List Nat) (i:Nat),(l.take i).sum<=l.sum
 | [],i=>by simp
 | x::r,0=>by simp
 | x::r,i+1=>by have:=I8 r i;simp;omega
theorem tj (n:Stil.B1):∀(f d:Value) (w:World),Ak w f n.one.args->Eo w d n.kids->Ac n<=1000000000->
  Calls prog 114 #[.agg #[.int .i64 n.kind, .int .i64 n.one.op,f,d]] w λe w'=>e=.returned (.int .i64 (Ac n))/\Below w.heap.size w w':=by
 induction n using Fv with
 | h k e kids y=>
  intro f d w q t Q;have T:=Ab y;clear y;have I:=Ab (Oi k e kids);have M:(kids.map Ac).sum<=1000000000:=by have:=I.out;omega
  obtain⟨a,cap,rfl,E⟩:=t;have L:Hid (∀i (h:i<kids.length),∃b o,a=some ⟨b,o,none⟩/\b<w.heap.size/\N9 w b (o+i*4) kids[i]):=E;obtain⟨aa,C,rfl,_⟩:=q;have ad:kids.length<=1000000000:=by
   have:∀l:List Stil.B1,l.length<=(l.map Ac).sum:=by
    intro l;induction l with
    | nil=>simp
    | cons x r y=>simp only[CN,Da,CC];have:1<=Ac x:=(by(obtain⟨_,_,_⟩:=x;rw[Oi];omega));omega
   have:=this kids;omega
  clear E Q;go_enter func114,ntmps114
  go_wp2
  go_loopw [3,4] (λacc i wr=>∃j:Nat,j<=kids.length/\i=.int .i64 j/\acc=.int .i64 (1+((kids.map Ac).take j).sum:Nat)/\Below (w.heap.size+1) (w.alloc (.cells #[.int .i64 k, .int .i64 e.op, .slice aa e.args.length C, .slice a kids.length cap] 54)) wr) (λ_ i _=>kids.length - (intOf i).toNat)
  case atStart=>exact⟨0,AU,rfl,AW,Below.refl _ _⟩
  case round=>
   obtain⟨j,hj,rfl,rfl,c⟩:=hrel;have V:w.heap.size<wr.heap.size:=by have:=c.size;simp at this;omega
   have c0:wr.cell? ⟨w.heap.size,0,none⟩=some (.int .i64 k):=A3 c;have f0:wr.frozen? ⟨w.heap.size,0,none⟩=false:=A4 c;have c1:wr.cell? ⟨w.heap.size,1,none⟩=some (.int .i64 e.op):=A3 c;have f1:wr.frozen? ⟨w.heap.size,1,none⟩=false:=A4 c;have c2:wr.cell? ⟨w.heap.size,2,none⟩=some (.slice aa e.args.length C):=A3 c;have f2:wr.frozen? ⟨w.heap.size,2,none⟩=false:=A4 c;have c3:wr.cell? ⟨w.heap.size,3,none⟩=some (.slice a kids.length cap):=A3 c;have f3:wr.frozen? ⟨w.heap.size,3,none⟩=false:=A4 c;have J:=(Aa _ _).trans (c.mono AU);have G:=I8 (kids.map Ac) j;by_cases hlt:j<kids.length
   .obtain⟨b,o,rfl,R,z⟩:=L j hlt
    obtain⟨S,U,f,d,x2,x3,q,t⟩:=(N9.below J _ _ _ z R).open;have g:=Qk (kids.map Ac) j BU;have K:=I8 (kids.map Ac) (j+1);rw[EU] at g;have u:=Ab (λW H=>T kids[j] (CG hlt) f d W (q.below H) (t.below H) AU);obtain⟨s,A⟩:∃s,s=Ac kids[j]:=⟨_,rfl⟩
    obtain⟨x,D⟩:∃x,x=kids[j]:=⟨_,rfl⟩
    rw[<-A] at u g;rw[<-D] at u S U;obtain⟨ae,vO,rfl,_⟩:=q;obtain⟨a',ac,rfl,_⟩:=t;generalize N:((kids.map Ac).take j).sum=A1 at g G ⊢;have O:=Ab g;have af:A1+s<=1000000000:=AU
    clear A D z N g K G M
    go_wp2_with (go_at_call 114;refine(u _ A2).mono ?_;rintro e w2 ⟨rfl,ab⟩)
    refine⟨⟨j+1,AU,by go_num,?_,c.trans (ab.mono V)⟩,by simp[intOf];omega⟩;rw[O.out];congr 1;omega
   .go_wp2
    go_ret;refine⟨Fa ?_,J⟩;rw[I.out,EC Ax]
theorem NU (n:Stil.B1)(i g:Value)(w:World)(q:Ak w i n.one.args)(j:Eo w g n.kids)(_h1:n.one.args.length<=9223372036854775807)(_h2:n.kids.length<=9223372036854775807):
  Calls prog 53 #[.agg #[.int .i64 n.kind, .int .i64 n.one.op,i,g]] w λe w'=>e=.returned (.bool (Ai n))/\Below w.heap.size w w':=by
 obtain⟨aa,s,rfl,_⟩:=q;obtain⟨a,cap,rfl,_⟩:=j;obtain⟨d,b⟩:∃d,d=n.one.args.length:=⟨_,rfl⟩
 obtain⟨f,c⟩:∃f,f=n.kids.length:=⟨_,rfl⟩
 have k:Hid (Ai n=(n.kind==0 && n.one.op==0 && d==0 && f==0)):=by
  show _=_
  unfold Ai;rw[b,c]
 rw[<-b,<-c];rw[<-b] at _h1;rw[<-c] at _h2;clear b c;go_enter func53,ntmps53
 go_wp2
 all_goals go_ret
 all_goals (refine⟨Ad ?_,A2⟩)
 all_goals rw[k.out]
 all_goals go_light
 all_goals (rw[Db];simp[*];try omega)
def J4 (x:Stil.B5):1<=Ah x:=by obtain⟨_,_,_⟩:=x;rw[Qs];omega
theorem NA {α:Type}(f:α->Nat)(a:∀x,1<=f x):∀l:List α,l.length<=(l.map f).sum
 | []=>by simp
 | x::r=>by have:=NA f a r;have:=a x;simp only[CN,Da,CC];omega
def zya {p:Prop}(h:p:=by
 go_wp2_with (go_at_call 73;refine(HI _ A2).mono ?_;rintro e w2 ⟨rfl,hb2⟩)
 refine⟨⟨j+1,AU,by go_num,?_,hB.trans (hb2.mono hz)⟩,by simp[intOf];omega⟩;rw[HS.out];congr 1;omega):p:=h
theorem tt (n:Stil.B5):∀(q g A C:Value) (w:World),Ak w q n.net.one.args->Eo w g n.net.kids->F6 w A n.coils->Dc w C n.kids->Ah n<=1000000000->Ba n->
  Calls prog 73 #[.agg #[.int .i64 n.net.kind, .int .i64 n.net.one.op,q,g,A,C]] w λe w'=>e=.returned (.int .i64 (Ah n))/\Below w.heap.size w w':=by
 induction n using Fb with
 | h n d kids ih=>
  intro q g A C w k t y z ah ad;simp only at k t y z;obtain⟨ae,ak,_,al,af⟩:=(Eu _ _ _).1 ad;obtain⟨_,he,zM,_⟩:=Dw ae;have an:=he.2.1;have IH:=Ab ih;have HF:=Ab af;clear ih af ad he ae;obtain⟨ns,N⟩:∃ns,ns=if Ai n then 0 else Ac n:=⟨_,rfl⟩
  have HZ:Hid (Ah ⟨n,d,kids⟩=1+d.length+ns+(kids.map Ah).sum):=by show _=_;rw[Qs,N]
  have ag:1+d.length+ns+(kids.map Ah).sum<=1000000000:=by have:=HZ.out;omega
  have fH:=Ab (λW c=>NU n q g W (k.below c) (t.below c) AU AU);have gB:Hid (Ai n=false->∀W,Below w.heap.size w W->Calls prog 114 #[.agg #[.int .i64 n.kind, .int .i64 n.one.op,q,g]] W λe w'=>e=.returned (.int .i64 ns)/\Below W.heap.size W w'):=λV W c=>by
   have e0:ns=Ac n:=by rw[N,V];rfl
   rw[e0];exact tj n q g W (k.below c) (t.below c) AU
  have kQ:Hid (Ai n=true->ns=0):=λV=>by rw[N,V];rfl
  obtain⟨a,cap,rfl,D⟩:=z;have HC:=Ab D;obtain⟨aa,M,rfl,_⟩:=k;obtain⟨S,L,rfl,_⟩:=t;obtain⟨O,Q,rfl,_⟩:=y;clear D ah N;cases R:Ai n
  .go_enter func73,ntmps73
   go_wp2_with (first | (go_at_call 53;refine(fH _ A2).mono ?_;rw[R];rintro e w1 ⟨rfl,u⟩;obtain⟨D,hf⟩:=Ff u) | (go_at_call 114;refine(gB R _ A2).mono ?_;rintro e w2 ⟨rfl,hb2⟩))
   go_loopw [3,4] (λacc i wr=>∃j:Nat,j<=kids.length/\i=.int .i64 j/\acc=.int .i64 (1+d.length+ns+((kids.map Ah).take j).sum:Nat)/\Below (w.heap.size+1) (w.alloc (.cells #[.int .i64 n.kind, .int .i64 n.one.op, .slice aa n.one.args.length M, .slice S n.kids.length L, .slice O d.length Q, .slice a kids.length cap] 60)) wr) (λ_ i _=>kids.length - (intOf i).toNat)
   case atStart=>exact⟨0,AU,rfl,AW,(u.mono AW).trans (hb2.mono (by have:=u.size;simpa using this))⟩
   case round=>
    clear D hf u hb2;obtain⟨j,hj,rfl,rfl,hB⟩:=hrel;have hz:w.heap.size<wr.heap.size:=by have:=hB.size;simp at this;omega
    have c0:wr.cell? ⟨w.heap.size,0,none⟩=some (.int .i64 n.kind):=A3 hB;have f0:wr.frozen? ⟨w.heap.size,0,none⟩=false:=A4 hB;have c1:wr.cell? ⟨w.heap.size,1,none⟩=some (.int .i64 n.one.op):=A3 hB;have f1:wr.frozen? ⟨w.heap.size,1,none⟩=false:=A4 hB;have c2:wr.cell? ⟨w.heap.size,2,none⟩=some (.slice aa n.one.args.length M):=A3 hB;have f2:wr.frozen? ⟨w.heap.size,2,none⟩=false:=A4 hB;have c3:wr.cell? ⟨w.heap.size,3,none⟩=some (.slice S n.kids.length L):=A3 hB;have f3:wr.frozen? ⟨w.heap.size,3,none⟩=false:=A4 hB;have c4:wr.cell? ⟨w.heap.size,4,none⟩=some (.slice O d.length Q):=A3 hB;have f4:wr.frozen? ⟨w.heap.size,4,none⟩=false:=A4 hB;have c5:wr.cell? ⟨w.heap.size,5,none⟩=some (.slice a kids.length cap):=A3 hB;have f5:wr.frozen? ⟨w.heap.size,5,none⟩=false:=A4 hB;have K:=(Aa _ _).trans (hB.mono AU);have J:=I8 (kids.map Ah) j;by_cases hlt:j<kids.length
    .obtain⟨b,o,rfl,ab,H⟩:=HC j hlt
     obtain⟨G,A,C,x4,x5,y,z⟩:=(P5.below K _ _ _ H ab).open;obtain⟨U,x1,q,g,x2,x3,k,t⟩:=G.open;have f:=Qk (kids.map Ah) j BU;have ac:=I8 (kids.map Ah) (j+1);rw[EU] at f;have HI:=Ab (λW c=>IH kids[j] (CG hlt) q g A C W (k.below c) (t.below c) (y.below c) (z.below c) AU (HF _ (CG hlt)));obtain⟨s,I⟩:∃s,s=Ah kids[j]:=⟨_,rfl⟩
     obtain⟨x,E⟩:∃x,x=kids[j]:=⟨_,rfl⟩
     rw[<-I] at HI f;rw[<-E] at HI U x1;obtain⟨q1,q2,rfl,_⟩:=k;obtain⟨q3,q4,rfl,_⟩:=t;obtain⟨q5,q6,rfl,_⟩:=y;obtain⟨q7,q8,rfl,_⟩:=z;generalize T:((kids.map Ah).take j).sum=A1 at f J ⊢;have HS:=Ab f;have ai:1+d.length+ns+A1+s<=1000000000:=AU
     clear I E H G T f ac J ag
     exact zya
    .go_wp2
     go_ret;refine⟨Fa ?_,K⟩;rw[HZ.out,EC Ax]
  .have aj:=kQ R
   subst aj;go_enter func73,ntmps73
   go_wp2_with (first | (go_at_call 53;refine(fH _ A2).mono ?_;rw[R];rintro e w1 ⟨rfl,u⟩;obtain⟨D,hf⟩:=Ff u))
   go_loopw [3,4] (λacc i wr=>∃j:Nat,j<=kids.length/\i=.int .i64 j/\acc=.int .i64 (1+d.length+0+((kids.map Ah).take j).sum:Nat)/\Below (w.heap.size+1) (w.alloc (.cells #[.int .i64 n.kind, .int .i64 n.one.op, .slice aa n.one.args.length M, .slice S n.kids.length L, .slice O d.length Q, .slice a kids.length cap] 60)) wr) (λ_ i _=>kids.length - (intOf i).toNat)
   case atStart=>exact⟨0,AU,rfl,AW,u.mono AW⟩
   case round=>
    clear D hf u;obtain⟨j,hj,rfl,rfl,hB⟩:=hrel;have hz:w.heap.size<wr.heap.size:=by have:=hB.size;simp at this;omega
    have c0:wr.cell? ⟨w.heap.size,0,none⟩=some (.int .i64 n.kind):=A3 hB;have f0:wr.frozen? ⟨w.heap.size,0,none⟩=false:=A4 hB;have c1:wr.cell? ⟨w.heap.size,1,none⟩=some (.int .i64 n.one.op):=A3 hB;have f1:wr.frozen? ⟨w.heap.size,1,none⟩=false:=A4 hB;have c2:wr.cell? ⟨w.heap.size,2,none⟩=some (.slice aa n.one.args.length M):=A3 hB;have f2:wr.frozen? ⟨w.heap.size,2,none⟩=false:=A4 hB;have c3:wr.cell? ⟨w.heap.size,3,none⟩=some (.slice S n.kids.length L):=A3 hB;have f3:wr.frozen? ⟨w.heap.size,3,none⟩=false:=A4 hB;have c4:wr.cell? ⟨w.heap.size,4,none⟩=some (.slice O d.length Q):=A3 hB;have f4:wr.frozen? ⟨w.heap.size,4,none⟩=false:=A4 hB;have c5:wr.cell? ⟨w.heap.size,5,none⟩=some (.slice a kids.length cap):=A3 hB;have f5:wr.frozen? ⟨w.heap.size,5,none⟩=false:=A4 hB;have K:=(Aa _ _).trans (hB.mono AU);have J:=I8 (kids.map Ah) j;by_cases hlt:j<kids.length
    .obtain⟨b,o,rfl,ab,H⟩:=HC j hlt
     obtain⟨G,A,C,x4,x5,y,z⟩:=(P5.below K _ _ _ H ab).open;obtain⟨U,x1,q,g,x2,x3,k,t⟩:=G.open;have f:=Qk (kids.map Ah) j BU;have ac:=I8 (kids.map Ah) (j+1);rw[EU] at f;have HI:=Ab (λW c=>IH kids[j] (CG hlt) q g A C W (k.below c) (t.below c) (y.below c) (z.below c) AU (HF _ (CG hlt)));obtain⟨s,I⟩:∃s,s=Ah kids[j]:=⟨_,rfl⟩
     obtain⟨x,E⟩:∃x,x=kids[j]:=⟨_,rfl⟩
     rw[<-I] at HI f;rw[<-E] at HI U x1;obtain⟨q1,q2,rfl,_⟩:=k;obtain⟨q3,q4,rfl,_⟩:=t;obtain⟨q5,q6,rfl,_⟩:=y;obtain⟨q7,q8,rfl,_⟩:=z;generalize T:((kids.map Ah).take j).sum=A1 at f J ⊢;have HS:=Ab f;have ai:1+d.length+0+A1+s<=1000000000:=AU
     clear I E H G T f ac J ag
     exact zya
    .go_wp2
     go_ret;refine⟨Fa ?_,K⟩;rw[HZ.out,EC Ax]
theorem M4 (l:List Stil.B5)(d:Value)(w:World)(f:Dc w d l)(D:Bc l<=1000000000)(E:∀x∈l,Ba x):
  Calls prog 41 #[d] w λe w'=>e=.returned (.int .i64 (Bc l))/\Below w.heap.size w w':=by
 obtain⟨a,cap,rfl,C⟩:=f;have M:=Ab C;have V:=Ab E;have HZ:Hid (Bc l=(l.map Ah).sum):=rfl;have O:(l.map Ah).sum<=1000000000:=D;have J:=NA Ah J4 l;have aa:l.length<=1000000000:=AU
 clear C E D J;go_enter func41,ntmps41
 go_wp2
 go_loopw [3,4] (λacc i wr=>∃j:Nat,j<=l.length/\i=.int .i64 j/\acc=.int .i64 (((l.map Ah).take j).sum:Nat)/\Below w.heap.size w wr) (λ_ i _=>l.length - (intOf i).toNat)
 case atStart=>exact⟨0,AU,rfl,AW,Below.refl _ _⟩
 case round=>
  obtain⟨j,hj,rfl,rfl,I⟩:=hrel;have G:=I8 (l.map Ah) j;by_cases hlt:j<l.length
  .obtain⟨b,o,rfl,S,q⟩:=M j hlt
   obtain⟨H,U,d,x4,x5,A,f⟩:=(P5.below I _ _ _ q S).open;obtain⟨T,x1,N,K,x2,x3,z,u⟩:=H.open;have c:=Qk (l.map Ah) j BU;have L:=I8 (l.map Ah) (j+1);rw[EU] at c;have k:=Ab (λW g=>tt l[j] N K U d W (z.below g) (u.below g) (A.below g) (f.below g) AU (V _ (CG hlt)));obtain⟨s,t⟩:∃s,s=Ah l[j]:=⟨_,rfl⟩
   obtain⟨x,y⟩:∃x,x=l[j]:=⟨_,rfl⟩
   rw[<-t] at k c;rw[<-y] at k T x1;obtain⟨q1,q2,rfl,_⟩:=z;obtain⟨q3,q4,rfl,_⟩:=u;obtain⟨q5,q6,rfl,_⟩:=A;obtain⟨q7,q8,rfl,_⟩:=f;generalize R:((l.map Ah).take j).sum=A1 at c G ⊢;have Q:=Ab c;have ab:A1+s<=1000000000:=AU
   clear t y q H R c L G O
   go_wp2_with (go_at_call 73;refine(k _ A2).mono ?_;rintro e w2 ⟨rfl,ac⟩)
   refine⟨⟨j+1,AU,by go_num,?_,A2⟩,by simp[intOf];omega⟩;rw[Q.out];rfl
  .go_wp2
   go_ret;refine⟨Fa ?_,I⟩;rw[HZ.out,EC Ax]
