import Derived.Test.YtbfljjcnbbmoaaaGreatDoorGC
import Derived.RangeFuncNested
import Derived.RangeFuncBound
import Derived.RangeFuncCalls
import Derived.RangeFuncLeaves
import Derived.Shelf.Abstract
namespace Go.Proofs.YtbfljjcnbbmoaaaGreatDoor
open Stil
open Go.RowKit Go.Sort Go.BigFrame
def Me (w:World):Nat->Nat->Stil.Net->Prop
 | b,o,⟨k,e,kids⟩=>w.cell? ⟨b,o,none⟩=some (.int .i64 k)/\w.cell? ⟨b,o+1,none⟩=some (.int .i64 e.op)/\
   (∃av,w.cell? ⟨b,o+2,none⟩=some av/\Bg w av e.args)/\
   ∃a cap,w.cell? ⟨b,o+3,none⟩=some (.slice a kids.length cap)/\∀i (h:i<kids.length),∃b' o',a=some ⟨b',o',none⟩/\b'<w.heap.size/\
    (have:=List.sizeOf_lt_of_mem (A4k h);Me w b' (o'+i*4) kids[i])
theorem Abp (w:World) (b o:Nat) (k:Int) (e:Stil.Elem) (kids:List Stil.Net):Me w b o ⟨k,e,kids⟩=(w.cell? ⟨b,o,none⟩=some (.int .i64 k)/\w.cell? ⟨b,o+1,none⟩=some (.int .i64 e.op)/\
   (∃av,w.cell? ⟨b,o+2,none⟩=some av/\Bg w av e.args)/\
   ∃a cap,w.cell? ⟨b,o+3,none⟩=some (.slice a kids.length cap)/\∀i (h:i<kids.length),∃b' o',a=some ⟨b',o',none⟩/\b'<w.heap.size/\Me w b' (o'+i*4) kids[i]):=by rw[Me]
def Dq (w:World) (v:Value) (ns:List Stil.Net):Prop:=∃a cap,v=.slice a ns.length cap/\∀i (h:i<ns.length),∃b o,a=some ⟨b,o,none⟩/\b<w.heap.size/\Me w b (o+i*4) ns[i]
theorem Adr (w:World) (b o:Nat) (k:Int) (e:Stil.Elem) (kids:List Stil.Net):Me w b o ⟨k,e,kids⟩↔(w.cell? ⟨b,o,none⟩=some (.int .i64 k)/\w.cell? ⟨b,o+1,none⟩=some (.int .i64 e.op)/\
   (∃av,w.cell? ⟨b,o+2,none⟩=some av/\Bg w av e.args)/\∃kv,w.cell? ⟨b,o+3,none⟩=some kv/\Dq w kv kids):=by
 rw[Abp];constructor
 ·rintro⟨h1,h2,h3,a,cap,h4,h5⟩;exact⟨h1,h2,h3,_,h4,a,cap,rfl,h5⟩
 ·rintro⟨h1,h2,h3,_,h4,a,cap,rfl,h5⟩;exact⟨h1,h2,h3,a,cap,h4,h5⟩
theorem Me.below {w w':World} (hb:Below w.heap.size w w'):∀(n:Stil.Net) (b o:Nat),Me w b o n->b<w.heap.size->Me w' b o n:=by
 intro n;induction n using Fg with
 | h k e kids ih=>
  intro b o h hlt;rw[Abp] at h ⊢;obtain⟨h1,h2,⟨av,h3,h4⟩,a,cap,h5,h6⟩:=h;refine⟨?_,?_,⟨av,?_,h4.below hb⟩,a,cap,?_,λi hi=>?_⟩
  ·rw[hb.cell (p:=⟨b,o,none⟩) hlt];exact h1
  ·rw[hb.cell (p:=⟨b,o+1,none⟩) hlt];exact h2
  ·rw[hb.cell (p:=⟨b,o+2,none⟩) hlt];exact h3
  ·rw[hb.cell (p:=⟨b,o+3,none⟩) hlt];exact h5
  ·obtain⟨b',o',ha,hl',hn⟩:=h6 i hi
   exact⟨b',o',ha,A4c hl' hb.size,ih _ (A4k hi) b' _ hn hl'⟩
theorem Dq.below {w w':World} {v:Value} {ns:List Stil.Net} (h:Dq w v ns) (hb:Below w.heap.size w w'):Dq w' v ns:=by
 obtain⟨a,cap,hv,hc⟩:=h;refine⟨a,cap,hv,λi hi=>?_⟩;obtain⟨b,o,ha,hlt,hn⟩:=hc i hi;exact⟨b,o,ha,A4c hlt hb.size,Me.below hb _ _ _ hn hlt⟩
def Aft (w:World) (b o:Nat) (e:Stil.Elem):Prop:=w.cell? ⟨b,o,none⟩=some (.int .i64 e.op)/\∃av,w.cell? ⟨b,o+1,none⟩=some av/\Bg w av e.args
def Ef (w:World) (v:Value) (es:List Stil.Elem):Prop:=∃a cap,v=.slice a es.length cap/\∀i (h:i<es.length),∃b o,a=some ⟨b,o,none⟩/\b<w.heap.size/\Aft w b (o+i*2) es[i]
theorem Aft.below {w w':World} {b o:Nat} {e:Stil.Elem} (h:Aft w b o e) (hb:Below w.heap.size w w') (hlt:b<w.heap.size):Aft w' b o e:=by
 obtain⟨h1,av,h2,h3⟩:=h;exact⟨by rw[hb.cell (p:=⟨b,o,none⟩) hlt];exact h1,av,by rw[hb.cell (p:=⟨b,o+1,none⟩) hlt];exact h2,h3.below hb⟩
theorem Ef.below {w w':World} {v:Value} {es:List Stil.Elem} (h:Ef w v es) (hb:Below w.heap.size w w'):Ef w' v es:=by
 obtain⟨a,cap,hv,hc⟩:=h;refine⟨a,cap,hv,λi hi=>?_⟩;obtain⟨b,o,ha,hlt,hn⟩:=hc i hi;exact⟨b,o,ha,A4c hlt hb.size,hn.below hb hlt⟩
def Pg (w:World):Nat->Nat->Stil.Arm->Prop
 | b,o,⟨n,coils,kids⟩=>Me w b o n/\(∃cv,w.cell? ⟨b,o+4,none⟩=some cv/\Ef w cv coils)/\
   ∃a cap,w.cell? ⟨b,o+5,none⟩=some (.slice a kids.length cap)/\∀i (h:i<kids.length),∃b' o',a=some ⟨b',o',none⟩/\b'<w.heap.size/\
    (have:=List.sizeOf_lt_of_mem (A4k h);Pg w b' (o'+i*6) kids[i])
theorem Abs (w:World) (b o:Nat) (n:Stil.Net) (coils:List Stil.Elem) (kids:List Stil.Arm):Pg w b o ⟨n,coils,kids⟩=(Me w b o n/\(∃cv,w.cell? ⟨b,o+4,none⟩=some cv/\Ef w cv coils)/\
   ∃a cap,w.cell? ⟨b,o+5,none⟩=some (.slice a kids.length cap)/\∀i (h:i<kids.length),∃b' o',a=some ⟨b',o',none⟩/\b'<w.heap.size/\Pg w b' (o'+i*6) kids[i]):=by rw[Pg]
def Dv (w:World) (v:Value) (l:List Stil.Arm):Prop:=∃a cap,v=.slice a l.length cap/\∀i (h:i<l.length),∃b o,a=some ⟨b,o,none⟩/\b<w.heap.size/\Pg w b (o+i*6) l[i]
theorem Pg.below {w w':World} (hb:Below w.heap.size w w'):∀(n:Stil.Arm) (b o:Nat),Pg w b o n->b<w.heap.size->Pg w' b o n:=by
 intro n;induction n using Fz with
 | h n coils kids ih=>
  intro b o h hlt;rw[Abs] at h ⊢;obtain⟨h1,⟨cv,h3,h4⟩,a,cap,h5,h6⟩:=h;refine⟨Me.below hb _ _ _ h1 hlt,⟨cv,?_,h4.below hb⟩,a,cap,?_,λi hi=>?_⟩
  ·rw[hb.cell (p:=⟨b,o+4,none⟩) hlt];exact h3
  ·rw[hb.cell (p:=⟨b,o+5,none⟩) hlt];exact h5
  ·obtain⟨b',o',ha,hl',hn⟩:=h6 i hi
   exact⟨b',o',ha,A4c hl' hb.size,ih _ (A4k hi) b' _ hn hl'⟩
theorem Dv.below {w w':World} {v:Value} {ns:List Stil.Arm} (h:Dv w v ns) (hb:Below w.heap.size w w'):Dv w' v ns:=by
 obtain⟨a,cap,hv,hc⟩:=h;refine⟨a,cap,hv,λi hi=>?_⟩;obtain⟨b,o,ha,hlt,hn⟩:=hc i hi;exact⟨b,o,ha,A4c hlt hb.size,Pg.below hb _ _ _ hn hlt⟩
theorem Me.open {w:World} {b o:Nat} {n:Stil.Net} (h:Me w b o n):w.cell? ⟨b,o,none⟩=some (.int .i64 n.kind)/\w.cell? ⟨b,o+1,none⟩=some (.int .i64 n.one.op)/\
   ∃av kv,w.cell? ⟨b,o+2,none⟩=some av/\w.cell? ⟨b,o+3,none⟩=some kv/\Bg w av n.one.args/\Dq w kv n.kids:=by
 obtain⟨k,e,kids⟩:=n;obtain⟨h1,h2,⟨av,h3,h4⟩,kv,h5,h6⟩:=(Adr _ _ _ _ _ _).1 h;exact⟨h1,h2,av,kv,h3,h5,h4,h6⟩
theorem Pg.open {w:World} {b o:Nat} {n:Stil.Arm} (h:Pg w b o n):Me w b o n.net/\∃cv kv,w.cell? ⟨b,o+4,none⟩=some cv/\w.cell? ⟨b,o+5,none⟩=some kv/\Ef w cv n.coils/\Dv w kv n.kids:=by
 obtain⟨n,coils,kids⟩:=n;rw[Abs] at h;obtain⟨h1,⟨cv,h3,h4⟩,a,cap,h5,h6⟩:=h;exact⟨h1,cv,_,h3,h5,h4,a,cap,rfl,h6⟩
def Jd (lo:Nat) (w w':World):Prop:=w.heap.size<=w'.heap.size/\∀b o,lo<=b->b<w.heap.size->w'.cell? ⟨b,o,none⟩=w.cell? ⟨b,o,none⟩
theorem Jd.trans {lo:Nat} {a b c:World} (h1:Jd lo a b) (h2:Jd lo b c):Jd lo a c:=
 ⟨A4p h1.1 h2.1,λx o hl hx=>(h2.2 x o hl (A4c hx h1.1)).trans (h1.2 x o hl hx)⟩
theorem Jd.of_below {lo:Nat} {w w':World} (h:Below w.heap.size w w'):Jd lo w w':=⟨h.size,λb o _ hb=>h.cell (p:=⟨b,o,none⟩) hb⟩
theorem Ba {W:World} {b c o p:Nat} {v:Value} (h:c≠b):(W.setCell ⟨b,o,none⟩ v).cell? ⟨c,p,none⟩=W.cell? ⟨c,p,none⟩:=by
 simp[go_sem]
theorem Bf {W:World} {b o p:Nat} {v:Value} (h:p≠o):(W.setCell ⟨b,o,none⟩ v).cell? ⟨b,p,none⟩=W.cell? ⟨b,p,none⟩:=by
 simp[go_sem]
theorem Ey {W:World} {b o:Nat} {v u:Value} (h:W.cell? ⟨b,o,none⟩=some u):(W.setCell ⟨b,o,none⟩ v).cell? ⟨b,o,none⟩=some v:=by
 simp[go_sem,h]
theorem Ff (W:World) (p:Addr) (v:Value):W.heap.size<=(W.setCell p v).heap.size:=((Below.refl 0 W).setCell (Nat.zero_le _) v).size
def Ha (lo:Nat) (w:World) (v:Value) (ds:List Stil.Dev):Prop:=∃a cap,v=.slice a ds.length cap/\∀i (h:i<ds.length),∃b o,a=some ⟨b,o,none⟩/\lo<=b/\b<w.heap.size/\Ia w b (o+i*3) ds[i]
theorem Ia.keep {lo:Nat} {w w':World} {b o:Nat} {d:Stil.Dev} (h:Ia w b o d) (hk:Jd lo w w') (hl:lo<=b) (hb:b<w.heap.size):Ia w' b o d:=by
 obtain⟨h1,h2,h3⟩:=h;exact⟨by rw[hk.2 _ _ hl hb];exact h1,by rw[hk.2 _ _ hl hb];exact h2,by rw[hk.2 _ _ hl hb];exact h3⟩
theorem Ha.keep {lo:Nat} {w w':World} {v:Value} {ds:List Stil.Dev} (h:Ha lo w v ds) (hk:Jd lo w w'):Ha lo w' v ds:=by
 obtain⟨a,cap,hv,hc⟩:=h;refine⟨a,cap,hv,λi hi=>?_⟩;obtain⟨b,o,ha,hl,hb,hd⟩:=hc i hi;exact⟨b,o,ha,hl,A4c hb hk.1,hd.keep hk hl hb⟩
theorem Ha.at {lo:Nat} {w:World} {v:Value} {ds:List Stil.Dev} (h:Ha lo w v ds):Bg w v ds:=by
 obtain⟨a,cap,hv,hc⟩:=h;refine⟨a,cap,hv,λi hi=>?_⟩;obtain⟨b,o,ha,hl',hb,hd⟩:=hc i hi;exact⟨b,o,ha,hb,hd⟩
theorem Ha.of_owns {w:World} {base:Nat} {v:Value} {ds:List Stil.Dev} (h:w.ownsRow base 86 3 v ds.length (Bz ds)):Ha base w v ds:=by
 by_cases hd:ds.length=0
 ·have hn:=List.length_eq_zero_iff.1 hd
  subst hn;rcases h.2 with⟨h0,_⟩ | ⟨g,cap,cur,hv,_⟩
  ·exact⟨none,0,h0,λi hi=>by simp at hi⟩
  ·exact⟨_,cap,hv,λi hi=>by simp at hi⟩
 ·obtain⟨g,cap,hv,hbase,hlt,_,hc⟩:=Aw h (by omega)
  refine⟨_,cap,hv,λi hi=>⟨g,0,rfl,hbase,hlt,?_⟩⟩;obtain⟨a1,a2,a3⟩:=Ls ds i hi;unfold Ia;rw[A4m];exact⟨hc _ _ a1,hc _ _ a2,hc _ _ a3⟩
def Js (lo:Nat) (w:World):Nat->Nat->Stil.Net->Prop
 | b,o,⟨k,e,kids⟩=>w.cell? ⟨b,o,none⟩=some (.int .i64 k)/\w.cell? ⟨b,o+1,none⟩=some (.int .i64 e.op)/\
   (∃av,w.cell? ⟨b,o+2,none⟩=some av/\Ha lo w av e.args)/\
   ∃a cap,w.cell? ⟨b,o+3,none⟩=some (.slice a kids.length cap)/\∀i (h:i<kids.length),∃b' o',a=some ⟨b',o',none⟩/\lo<=b'/\b'<w.heap.size/\
    (have:=List.sizeOf_lt_of_mem (A4k h);Js lo w b' (o'+i*4) kids[i])
theorem Aag (lo:Nat) (w:World) (b o:Nat) (k:Int) (e:Stil.Elem) (kids:List Stil.Net):Js lo w b o ⟨k,e,kids⟩=(w.cell? ⟨b,o,none⟩=some (.int .i64 k)/\w.cell? ⟨b,o+1,none⟩=some (.int .i64 e.op)/\
   (∃av,w.cell? ⟨b,o+2,none⟩=some av/\Ha lo w av e.args)/\
   ∃a cap,w.cell? ⟨b,o+3,none⟩=some (.slice a kids.length cap)/\∀i (h:i<kids.length),∃b' o',a=some ⟨b',o',none⟩/\lo<=b'/\b'<w.heap.size/\Js lo w b' (o'+i*4) kids[i]):=by rw[Js]
def Rh (lo:Nat) (w:World) (v:Value) (ns:List Stil.Net):Prop:=∃a cap,v=.slice a ns.length cap/\∀i (h:i<ns.length),∃b o,a=some ⟨b,o,none⟩/\lo<=b/\b<w.heap.size/\Js lo w b (o+i*4) ns[i]
theorem Adq (lo:Nat) (w:World) (b o:Nat) (n:Stil.Net):Js lo w b o n↔(w.cell? ⟨b,o,none⟩=some (.int .i64 n.kind)/\w.cell? ⟨b,o+1,none⟩=some (.int .i64 n.one.op)/\
   (∃av,w.cell? ⟨b,o+2,none⟩=some av/\Ha lo w av n.one.args)/\∃kv,w.cell? ⟨b,o+3,none⟩=some kv/\Rh lo w kv n.kids):=by
 obtain⟨k,e,kids⟩:=n;rw[Aag];constructor
 ·rintro⟨h1,h2,h3,a,cap,h4,h5⟩;exact⟨h1,h2,h3,_,h4,a,cap,rfl,h5⟩
 ·rintro⟨h1,h2,h3,_,h4,a,cap,rfl,h5⟩;exact⟨h1,h2,h3,a,cap,h4,h5⟩
theorem Js.keep {lo:Nat} {w w':World} (hk:Jd lo w w'):∀(n:Stil.Net) (b o:Nat),Js lo w b o n->lo<=b->b<w.heap.size->Js lo w' b o n:=by
 intro n;induction n using Fg with
 | h k e kids ih=>
  intro b o h hl hlt;rw[Aag] at h ⊢;obtain⟨h1,h2,⟨av,h3,h4⟩,a,cap,h5,h6⟩:=h;refine⟨?_,?_,⟨av,?_,h4.keep hk⟩,a,cap,?_,λi hi=>?_⟩
  ·rw[hk.2 _ _ hl hlt];exact h1
  ·rw[hk.2 _ _ hl hlt];exact h2
  ·rw[hk.2 _ _ hl hlt];exact h3
  ·rw[hk.2 _ _ hl hlt];exact h5
  ·obtain⟨b',o',ha,hlo,hl',hn⟩:=h6 i hi
   exact⟨b',o',ha,hlo,A4c hl' hk.1,ih _ (A4k hi) b' _ hn hlo hl'⟩
theorem Js.at {lo:Nat} {w:World}:∀(n:Stil.Net) (b o:Nat),Js lo w b o n->Me w b o n:=by
 intro n;induction n using Fg with
 | h k e kids ih=>
  intro b o h;rw[Aag] at h;rw[Abp];obtain⟨h1,h2,⟨av,h3,h4⟩,a,cap,h5,h6⟩:=h;refine⟨h1,h2,⟨av,h3,h4.at⟩,a,cap,h5,λi hi=>?_⟩;obtain⟨b',o',ha,hlo,hl',hn⟩:=h6 i hi;exact⟨b',o',ha,hl',ih _ (A4k hi) b' _ hn⟩
theorem Rh.at {lo:Nat} {w:World} {v:Value} {ns:List Stil.Net} (h:Rh lo w v ns):Dq w v ns:=by
 obtain⟨a,cap,hv,hc⟩:=h;refine⟨a,cap,hv,λi hi=>?_⟩;obtain⟨b,o,ha,hl',hb,hd⟩:=hc i hi;exact⟨b,o,ha,hb,Js.at _ _ _ hd⟩
def Abr (lo:Nat) (w:World) (b o:Nat) (e:Stil.Elem):Prop:=w.cell? ⟨b,o,none⟩=some (.int .i64 e.op)/\∃av,w.cell? ⟨b,o+1,none⟩=some av/\Ha lo w av e.args
def Ju (lo:Nat) (w:World) (v:Value) (es:List Stil.Elem):Prop:=∃a cap,v=.slice a es.length cap/\∀i (h:i<es.length),∃b o,a=some ⟨b,o,none⟩/\lo<=b/\b<w.heap.size/\Abr lo w b (o+i*2) es[i]
theorem Abr.keep {lo:Nat} {w w':World} {b o:Nat} {e:Stil.Elem} (h:Abr lo w b o e) (hk:Jd lo w w') (hl:lo<=b) (hb:b<w.heap.size):Abr lo w' b o e:=by
 obtain⟨h1,av,h2,h3⟩:=h;exact⟨by rw[hk.2 _ _ hl hb];exact h1,av,by rw[hk.2 _ _ hl hb];exact h2,h3.keep hk⟩
theorem Ju.keep {lo:Nat} {w w':World} {v:Value} {es:List Stil.Elem} (h:Ju lo w v es) (hk:Jd lo w w'):Ju lo w' v es:=by
 obtain⟨a,cap,hv,hc⟩:=h;refine⟨a,cap,hv,λi hi=>?_⟩;obtain⟨b,o,ha,hl,hb,hd⟩:=hc i hi;exact⟨b,o,ha,hl,A4c hb hk.1,hd.keep hk hl hb⟩
theorem Ju.at {lo:Nat} {w:World} {v:Value} {es:List Stil.Elem} (h:Ju lo w v es):Ef w v es:=by
 obtain⟨a,cap,hv,hc⟩:=h;refine⟨a,cap,hv,λi hi=>?_⟩;obtain⟨b,o,ha,hl',hb,h1,av,h2,h3⟩:=hc i hi;exact⟨b,o,ha,hb,h1,av,h2,h3.at⟩
def Nv (lo:Nat) (w:World):Nat->Nat->Stil.Arm->Prop
 | b,o,⟨n,coils,kids⟩=>Js lo w b o n/\(∃cv,w.cell? ⟨b,o+4,none⟩=some cv/\Ju lo w cv coils)/\
   ∃a cap,w.cell? ⟨b,o+5,none⟩=some (.slice a kids.length cap)/\∀i (h:i<kids.length),∃b' o',a=some ⟨b',o',none⟩/\lo<=b'/\b'<w.heap.size/\
    (have:=List.sizeOf_lt_of_mem (A4k h);Nv lo w b' (o'+i*6) kids[i])
theorem Aak (lo:Nat) (w:World) (b o:Nat) (n:Stil.Net) (coils:List Stil.Elem) (kids:List Stil.Arm):Nv lo w b o ⟨n,coils,kids⟩=(Js lo w b o n/\(∃cv,w.cell? ⟨b,o+4,none⟩=some cv/\Ju lo w cv coils)/\
   ∃a cap,w.cell? ⟨b,o+5,none⟩=some (.slice a kids.length cap)/\∀i (h:i<kids.length),∃b' o',a=some ⟨b',o',none⟩/\lo<=b'/\b'<w.heap.size/\Nv lo w b' (o'+i*6) kids[i]):=by rw[Nv]
def Pe (lo:Nat) (w:World) (v:Value) (l:List Stil.Arm):Prop:=∃a cap,v=.slice a l.length cap/\∀i (h:i<l.length),∃b o,a=some ⟨b,o,none⟩/\lo<=b/\b<w.heap.size/\Nv lo w b (o+i*6) l[i]
theorem Amq (lo:Nat) (w:World) (b o:Nat) (n:Stil.Arm):Nv lo w b o n↔(Js lo w b o n.net/\(∃cv,w.cell? ⟨b,o+4,none⟩=some cv/\Ju lo w cv n.coils)/\∃kv,w.cell? ⟨b,o+5,none⟩=some kv/\Pe lo w kv n.kids):=by
 obtain⟨k,e,kids⟩:=n;rw[Aak];constructor
 ·rintro⟨h1,h3,a,cap,h4,h5⟩;exact⟨h1,h3,_,h4,a,cap,rfl,h5⟩
 ·rintro⟨h1,h3,_,h4,a,cap,rfl,h5⟩;exact⟨h1,h3,a,cap,h4,h5⟩
theorem Nv.keep {lo:Nat} {w w':World} (hk:Jd lo w w'):∀(n:Stil.Arm) (b o:Nat),Nv lo w b o n->lo<=b->b<w.heap.size->Nv lo w' b o n:=by
 intro n;induction n using Fz with
 | h n coils kids ih=>
  intro b o h hl hlt;rw[Aak] at h ⊢;obtain⟨h1,⟨cv,h3,h4⟩,a,cap,h5,h6⟩:=h;refine⟨Js.keep hk _ _ _ h1 hl hlt,⟨cv,?_,h4.keep hk⟩,a,cap,?_,λi hi=>?_⟩
  ·rw[hk.2 _ _ hl hlt];exact h3
  ·rw[hk.2 _ _ hl hlt];exact h5
  ·obtain⟨b',o',ha,hlo,hl',hn⟩:=h6 i hi
   exact⟨b',o',ha,hlo,A4c hl' hk.1,ih _ (A4k hi) b' _ hn hlo hl'⟩
theorem Pe.keep {lo:Nat} {w w':World} {v:Value} {ns:List Stil.Arm} (h:Pe lo w v ns) (hk:Jd lo w w'):Pe lo w' v ns:=by
 obtain⟨a,cap,hv,hc⟩:=h;refine⟨a,cap,hv,λi hi=>?_⟩;obtain⟨b,o,ha,hl,hb,hd⟩:=hc i hi;exact⟨b,o,ha,hl,A4c hb hk.1,Nv.keep hk _ _ _ hd hl hb⟩
theorem Nv.at {lo:Nat} {w:World}:∀(n:Stil.Arm) (b o:Nat),Nv lo w b o n->Pg w b o n:=by
 intro n;induction n using Fz with
 | h n coils kids ih=>
  intro b o h;rw[Aak] at h;rw[Abs];obtain⟨h1,⟨cv,h3,h4⟩,a,cap,h5,h6⟩:=h;refine⟨Js.at _ _ _ h1,⟨cv,h3,h4.at⟩,a,cap,h5,λi hi=>?_⟩;obtain⟨b',o',ha,hlo,hl',hn⟩:=h6 i hi;exact⟨b',o',ha,hl',ih _ (A4k hi) b' _ hn⟩
theorem Pe.at {lo:Nat} {w:World} {v:Value} {ns:List Stil.Arm} (h:Pe lo w v ns):Dv w v ns:=by
 obtain⟨a,cap,hv,hc⟩:=h;refine⟨a,cap,hv,λi hi=>?_⟩;obtain⟨b,o,ha,hl',hb,hd⟩:=hc i hi;exact⟨b,o,ha,hb,Nv.at _ _ _ hd⟩
structure I5 (C:Nat->Prop) (W W':World):Prop where
 size:W.heap.size<=W'.heap.size
 same:∀(k:Nat) (o:Obj),¬C k->W.heap[k]?=some o->o.isCells=true->W'.heap[k]?=some o
theorem I5.refl (C:Nat->Prop) (W:World):I5 C W W:=⟨A4i _,λ_ _ _ h _=>h⟩
theorem I5.trans {C:Nat->Prop} {X Y Z:World} (h:I5 C X Y) (k:I5 C Y Z):I5 C X Z:=⟨A4p h.size k.size,λi o hc hi ho=>k.same i o hc (h.same i o hc hi ho) ho⟩
theorem I5.of_below {C:Nat->Prop} {W W':World} (h:Below W.heap.size W W'):I5 C W W':=
 ⟨h.size,λk _ _ hk _=>(h.block k (Array.getElem?_eq_some_iff.1 hk).1).trans hk⟩
theorem I5.drew {C:Nat->Prop} {W W':World} (h:I5 C W W'):I5 C W W'.drew:=⟨h.size,h.same⟩
theorem I5.call {C:Nat->Prop} {W X Y:World} (h:I5 C W X) (hb:Below X.heap.size X Y):I5 C W Y:=h.trans (.of_below hb)
theorem I5.set {C:Nat->Prop} {W W':World} {b o:Nat} (h:I5 C W W') (hb:C b) (v:Value):I5 C W (W'.setCell ⟨b,o,none⟩ v):=
 h.trans ⟨by simp[World.setCell],λk _ hc hk _=>(Below.heap_setCell W' ⟨b,o,none⟩ v k (λe=>hc (by rw[e];exact hb))).trans hk⟩
theorem I5.putObj {C:Nat->Prop} (W:World) {l:Nat} {o:Obj} (o':Obj) (h:W.heap[l]?=some o) (ho:o.isCells=false):I5 C W (W.putObj l o'):=
 ⟨by simp[World.putObj],λk p _ hk hp=>by
  by_cases e:k=l
  ·subst e
   rw[h] at hk;cases hk;rw[ho] at hp;cases hp
  ·rw[World.putObj_heap_other e];exact hk⟩
theorem I5.cell {C:Nat->Prop} {W W':World} (h:I5 C W W') {b o:Nat} {v:Value} (hb:¬C b) (hc:W.cell? ⟨b,o,none⟩=some v):W'.cell? ⟨b,o,none⟩=some v:=by
 obtain⟨p,hp,hq⟩:=cells_of_cell hc;exact(World.cell?_of_block (w:=W) ((h.same b p hb hp hq).trans hp.symm)).trans hc
theorem Bo {W:World} {b o:Nat} {v:Value} (h:W.cell? ⟨b,o,none⟩=some v):b<W.heap.size:=by
 obtain⟨p,hp,_⟩:=cells_of_cell h;exact(Array.getElem?_eq_some_iff.1 hp).1
def Kept (n₀:Nat) (C:Nat->Prop) (W W':World):Prop:=Below n₀ W W'/\I5 C W W'
theorem Kept.t {n₀:Nat} {C:Nat->Prop} {X Y Z:World} (h:Kept n₀ C X Y) (k:Kept n₀ C Y Z):Kept n₀ C X Z:=⟨h.1.trans k.1,h.2.trans k.2⟩
theorem Kept.b {n₀:Nat} {C:Nat->Prop} {w:World} (hn:n₀<=w.heap.size) (W:World) (l:Nat) (o o':Obj) (hl:w.heap.size<=l) (h:W.heap[l]?=some o) (hc:o.isCells=false) (hw:o.isWalk=false):Kept n₀ C W (W.putObj l o'):=
 ⟨belowK_b hn W l o o' hl h hc hw,I5.putObj W o' h hc⟩
theorem Kept.refl (n₀:Nat) (C:Nat->Prop) (W:World):Kept n₀ C W W:=⟨Below.refl _ _,I5.refl _ _⟩
theorem Kept.of_below {n₀:Nat} {C:Nat->Prop} {W W':World} (hn:n₀<=W.heap.size) (h:Below W.heap.size W W'):Kept n₀ C W W':=⟨h.mono hn, .of_below h⟩
structure Qp (w:World) (P:Stil.Net->Prop) where
 net:Stil.Net
 av:Value
 kv:Value
 hav:Bg w av net.one.args
 hkv:Dq w kv net.kids
 mem:P net
structure O8 (w:World) (P:Stil.Arm->Prop) where
 arm:Stil.Arm
 av:Value
 nv:Value
 cv:Value
 kv:Value
 hav:Bg w av arm.net.one.args
 hnv:Dq w nv arm.net.kids
 hcv:Ef w cv arm.coils
 hkv:Dv w kv arm.kids
 mem:P arm
def N9 (w:World) (C:Nat->Prop) (W:World) (v:Value) (l:List Stil.Net):Prop:=∃a cap,v=.slice a l.length cap/\∀i (h:i<l.length),∃b o,a=some ⟨b,o,none⟩/\¬C b/\
 ∃av kv,W.cell? ⟨b,o+i*4,none⟩=some (.int .i64 l[i].kind)/\W.cell? ⟨b,o+i*4+1,none⟩=some (.int .i64 l[i].one.op)/\W.cell? ⟨b,o+i*4+2,none⟩=some av/\W.cell? ⟨b,o+i*4+3,none⟩=some kv/\Bg w av l[i].one.args/\Dq w kv l[i].kids
theorem N9.keep {w:World} {C:Nat->Prop} {W W':World} {v:Value} {l:List Stil.Net} (h:N9 w C W v l) (hk:I5 C W W'):N9 w C W' v l:=by
 obtain⟨a,cap,hv,hc⟩:=h;refine⟨a,cap,hv,λi hi=>?_⟩;obtain⟨b,o,ha,hb,av,kv,x0,x1,x2,x3,h1,h2⟩:=hc i hi;exact⟨b,o,ha,hb,av,kv,hk.cell hb x0,hk.cell hb x1,hk.cell hb x2,hk.cell hb x3,h1,h2⟩
theorem N9.of_at {w:World} {C:Nat->Prop} {W:World} {v:Value} {l:List Stil.Net} (h:Dq w v l) (hb:Below w.heap.size w W) (hC:∀k,C k->w.heap.size<=k):N9 w C W v l:=by
 obtain⟨a,cap,hv,hc⟩:=h;refine⟨a,cap,hv,λi hi=>?_⟩;obtain⟨b,o,ha,hlt,hn⟩:=hc i hi;obtain⟨x0,x1,av,kv,x2,x3,h1,h2⟩:=hn.open;exact⟨b,o,ha,λh=>by have:=hC b h;omega,av,kv,(hb.cell (p:=⟨b,_,none⟩) hlt).trans x0,(hb.cell (p:=⟨b,_,none⟩) hlt).trans x1,(hb.cell (p:=⟨b,_,none⟩) hlt).trans x2,(hb.cell (p:=⟨b,_,none⟩) hlt).trans x3,h1,h2⟩
def Mc (w:World) (C:Nat->Prop) (W:World) (v:Value) (l:List Stil.Arm):Prop:=∃a cap,v=.slice a l.length cap/\∀i (h:i<l.length),∃b o,a=some ⟨b,o,none⟩/\¬C b/\
 ∃av nv cv kv,W.cell? ⟨b,o+i*6,none⟩=some (.int .i64 l[i].net.kind)/\W.cell? ⟨b,o+i*6+1,none⟩=some (.int .i64 l[i].net.one.op)/\W.cell? ⟨b,o+i*6+2,none⟩=some av/\W.cell? ⟨b,o+i*6+3,none⟩=some nv/\
  W.cell? ⟨b,o+i*6+4,none⟩=some cv/\W.cell? ⟨b,o+i*6+5,none⟩=some kv/\Bg w av l[i].net.one.args/\Dq w nv l[i].net.kids/\Ef w cv l[i].coils/\Dv w kv l[i].kids
theorem Mc.keep {w:World} {C:Nat->Prop} {W W':World} {v:Value} {l:List Stil.Arm} (h:Mc w C W v l) (hk:I5 C W W'):Mc w C W' v l:=by
 obtain⟨a,cap,hv,hc⟩:=h;refine⟨a,cap,hv,λi hi=>?_⟩;obtain⟨b,o,ha,hb,av,nv,cv,kv,x0,x1,x2,x3,x4,x5,h1⟩:=hc i hi;exact⟨b,o,ha,hb,av,nv,cv,kv,hk.cell hb x0,hk.cell hb x1,hk.cell hb x2,hk.cell hb x3,hk.cell hb x4,hk.cell hb x5,h1⟩
theorem Mc.of_at {w:World} {C:Nat->Prop} {W:World} {v:Value} {l:List Stil.Arm} (h:Dv w v l) (hb:Below w.heap.size w W) (hC:∀k,C k->w.heap.size<=k):Mc w C W v l:=by
 obtain⟨a,cap,hv,hc⟩:=h;refine⟨a,cap,hv,λi hi=>?_⟩;obtain⟨b,o,ha,hlt,hn⟩:=hc i hi;obtain⟨hna,cv,kv,x4,x5,h3,h4⟩:=hn.open;obtain⟨x0,x1,av,nv,x2,x3,h1,h2⟩:=hna.open;exact⟨b,o,ha,λh=>by have:=hC b h;omega,av,nv,cv,kv,(hb.cell (p:=⟨b,_,none⟩) hlt).trans x0,(hb.cell (p:=⟨b,_,none⟩) hlt).trans x1,(hb.cell (p:=⟨b,_,none⟩) hlt).trans x2,(hb.cell (p:=⟨b,_,none⟩) hlt).trans x3,(hb.cell (p:=⟨b,_,none⟩) hlt).trans x4,(hb.cell (p:=⟨b,_,none⟩) hlt).trans x5,h1,h2,h3,h4⟩
theorem Uw {B:Nat} {W X:World} (h:KeepsFrom B W X) (p:Addr) (v:Value):KeepsFrom B W (X.setCell p v):=h.trans ((KeepsOthers.setCell X p v).from B)
theorem O0 {B:Nat} {W X Y:World} (h:KeepsFrom B W X) (hb:Below X.heap.size X Y):KeepsFrom B W Y:=h.trans ⟨hb.size,λk _ _ hk _=>(hb.block k (Array.getElem?_eq_some_iff.1 hk).1).trans hk⟩
theorem Oz {B:Nat} {W X:World} (h:KeepsFrom B W X):KeepsFrom B W X.drew:=h.trans ((KeepsOthers.drew X).from B)
theorem Aip {n₀:Nat} {C:Nat->Prop} {W X:World} {b o:Nat} (h:Kept n₀ C W X) (hb:n₀<=b) (hc:C b) (v:Value):Kept n₀ C W (X.setCell ⟨b,o,none⟩ v):=⟨h.1.setCell (p:=⟨b,o,none⟩) hb v,h.2.set hc v⟩
theorem Ub {n₀:Nat} {C:Nat->Prop} {W X Y:World} (h:Kept n₀ C W X) (hn:n₀<=W.heap.size) (hb:Below X.heap.size X Y):Kept n₀ C W Y:=h.t (Kept.of_below (A4p hn h.2.size) hb)
theorem Auq {n₀:Nat} {C:Nat->Prop} {W X:World} (h:Kept n₀ C W X):Kept n₀ C W X.drew:=⟨h.1.drew,h.2.drew⟩
theorem Lt {W:World} {b o:Nat} {v:Value} (ob:Obj) (h:W.cell? ⟨b,o,none⟩=some v):(W.alloc ob).cell? ⟨b,o,none⟩=some v:=((Aa W ob).cell (p:=⟨b,o,none⟩) (Bo h)).trans h
theorem Nl {W:World} {b o:Nat} {v:Value} (ob:Obj) (h:W.cell? ⟨b,o,none⟩=some v) (hf:W.frozen? ⟨b,o,none⟩=false):(W.alloc ob).frozen? ⟨b,o,none⟩=false:=((Aa W ob).frozen (p:=⟨b,o,none⟩) (Bo h)).trans hf
theorem share {T G:Prop} (hf:T->G) (ht:T):G:=hf ht
theorem room_of_none {F:Fence} (hd:F.depth=none) (k:Nat):F.room k:=λd h=>by rw[hd] at h;cases h
theorem RoundIn.anyDepth {F:Fence} (hd:F.depth=none) {m m':Nat} {P:Program} {l:Nat} {f:FuncId} {tmps:Array Value} {assign body:Code} {w:World} {R:Ending->World->Prop}
  (h:RoundIn F m P l f tmps assign body w R):RoundIn F m' P l f tmps assign body w R:=⟨h.1,λc cs _=>h.2 c cs (room_of_none hd _)⟩
theorem YieldAt.anyDepth {F:Fence} (hd:F.depth=none) {m:Nat} (m':Nat) {P:Program} {l:Nat} {args:Array Value} {W:World} {R:Ending->World->Prop} (h:YieldAt F m P l args W R):YieldAt F m' P l args W R:=by
 obtain⟨fn,tmps,assign,body,hy,hR⟩:=h;exact⟨fn,tmps,assign,body,hy,RoundIn.anyDepth hd hR⟩
end Go.Proofs.YtbfljjcnbbmoaaaGreatDoor
