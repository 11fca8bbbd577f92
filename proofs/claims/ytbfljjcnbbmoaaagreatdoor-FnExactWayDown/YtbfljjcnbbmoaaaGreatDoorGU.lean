import Derived.Test.YtbfljjcnbbmoaaaGreatDoorGC
import Derived.RangeFuncNested
import Derived.RangeFuncBound
import Derived.RangeFuncCalls
import Derived.RangeFuncLeaves
import Derived.Shelf.Abstract
import Derived.Deep.DeepCutAuto
namespace Go.Proofs.YtbfljjcnbbmoaaaGreatDoor
open Stil
open Go.RowKit Go.Sort Go.BigFrame
variable {B l lo m n₀ o p:Nat}{F:Fence}{P:Program}{W W' X Y Z w':World}{v:Value}
def Nw (w:World):Nat->Nat->Stil.Net->Prop
 | b,o,⟨k,e,kids⟩=>w.cell? ⟨b,o,none⟩=some (.int .i64 k)/\w.cell? ⟨b,o+1,none⟩=some (.int .i64 e.op)/\
   (∃av,w.cell? ⟨b,o+2,none⟩=some av/\Bi w av e.args)/\
   ∃a cap,w.cell? ⟨b,o+3,none⟩=some (.slice a kids.length cap)/\∀i (h:i<kids.length),∃b' o',a=some ⟨b',o',none⟩/\b'<w.heap.size/\
    (have:=List.sizeOf_lt_of_mem (A4f h);Nw w b' (o'+i*4) kids[i])
theorem Ach (w:World)(b o:Nat)(k:Int)(e:Stil.Elem)(kids:List Stil.Net):Nw w b o ⟨k,e,kids⟩=(w.cell? ⟨b,o,none⟩=some (.int .i64 k)/\w.cell? ⟨b,o+1,none⟩=some (.int .i64 e.op)/\
   (∃av,w.cell? ⟨b,o+2,none⟩=some av/\Bi w av e.args)/\
   ∃a cap,w.cell? ⟨b,o+3,none⟩=some (.slice a kids.length cap)/\∀i (h:i<kids.length),∃b' o',a=some ⟨b',o',none⟩/\b'<w.heap.size/\Nw w b' (o'+i*4) kids[i]):=by rw[Nw]
def Dx (w:World)(v:Value)(ns:List Stil.Net):Prop:=∃a cap,v=.slice a ns.length cap/\∀i (h:i<ns.length),∃b o,a=some ⟨b,o,none⟩/\b<w.heap.size/\Nw w b (o+i*4) ns[i]
theorem Aek (w:World)(b o:Nat)(k:Int)(e:Stil.Elem)(kids:List Stil.Net):Nw w b o ⟨k,e,kids⟩↔(w.cell? ⟨b,o,none⟩=some (.int .i64 k)/\w.cell? ⟨b,o+1,none⟩=some (.int .i64 e.op)/\
   (∃av,w.cell? ⟨b,o+2,none⟩=some av/\Bi w av e.args)/\∃kv,w.cell? ⟨b,o+3,none⟩=some kv/\Dx w kv kids):=by
 rw[Ach];constructor
 ·rintro⟨h1,h2,h3,a,cap,h4,h5⟩;exact⟨h1,h2,h3,_,h4,a,cap,rfl,h5⟩
 ·rintro⟨h1,h2,h3,_,h4,a,cap,rfl,h5⟩;exact⟨h1,h2,h3,a,cap,h4,h5⟩
theorem zE0 {p:Prop}(h:p:=by
 obtain⟨b',o',ha,hl',hn⟩:=h6 i hi
 exact⟨b',o',ha,A37 hl' hb.size,ih _ (A4f hi) b' _ hn hl'⟩):p:=h
theorem Nw.below {w:World}(hb:Below w.heap.size w w'):∀(n:Stil.Net) (b o:Nat),Nw w b o n->b<w.heap.size->Nw w' b o n:=by
 intro n;induction n using Fh with
 | h k e kids ih=>
  intro b o h hlt;rw[Ach] at h ⊢;obtain⟨h1,h2,⟨av,h3,h4⟩,a,cap,h5,h6⟩:=h;refine⟨?_,?_,⟨av,?_,h4.below hb⟩,a,cap,?_,λi hi=>?_⟩
  ·rw[hb.cell (p:=⟨b,o,none⟩) hlt];exact h1
  ·rw[hb.cell (p:=⟨b,o+1,none⟩) hlt];exact h2
  ·rw[hb.cell (p:=⟨b,o+2,none⟩) hlt];exact h3
  ·rw[hb.cell (p:=⟨b,o+3,none⟩) hlt];exact h5
  ·exact zE0
theorem Dx.below {w:World}{ns:List Stil.Net}(h:Dx w v ns)(hb:Below w.heap.size w w'):Dx w' v ns:=by
 obtain⟨a,cap,hv,hc⟩:=h;refine⟨a,cap,hv,λi hi=>?_⟩;obtain⟨b,o,ha,hlt,hn⟩:=hc i hi;exact⟨b,o,ha,A37 hlt hb.size,Nw.below hb _ _ _ hn hlt⟩
def Agl (w:World)(b o:Nat)(e:Stil.Elem):Prop:=w.cell? ⟨b,o,none⟩=some (.int .i64 e.op)/\∃av,w.cell? ⟨b,o+1,none⟩=some av/\Bi w av e.args
def En (w:World)(v:Value)(es:List Stil.Elem):Prop:=∃a cap,v=.slice a es.length cap/\∀i (h:i<es.length),∃b o,a=some ⟨b,o,none⟩/\b<w.heap.size/\Agl w b (o+i*2) es[i]
theorem Agl.below {w:World}{b:Nat}{e:Stil.Elem}(h:Agl w b o e)(hb:Below w.heap.size w w')(hlt:b<w.heap.size):Agl w' b o e:=by
 obtain⟨h1,av,h2,h3⟩:=h;exact⟨by rw[hb.cell (p:=⟨b,o,none⟩) hlt];exact h1,av,by rw[hb.cell (p:=⟨b,o+1,none⟩) hlt];exact h2,h3.below hb⟩
theorem En.below {w:World}{es:List Stil.Elem}(h:En w v es)(hb:Below w.heap.size w w'):En w' v es:=by
 obtain⟨a,cap,hv,hc⟩:=h;refine⟨a,cap,hv,λi hi=>?_⟩;obtain⟨b,o,ha,hlt,hn⟩:=hc i hi;exact⟨b,o,ha,A37 hlt hb.size,hn.below hb hlt⟩
def Pz (w:World):Nat->Nat->Stil.Arm->Prop
 | b,o,⟨n,coils,kids⟩=>Nw w b o n/\(∃cv,w.cell? ⟨b,o+4,none⟩=some cv/\En w cv coils)/\
   ∃a cap,w.cell? ⟨b,o+5,none⟩=some (.slice a kids.length cap)/\∀i (h:i<kids.length),∃b' o',a=some ⟨b',o',none⟩/\b'<w.heap.size/\
    (have:=List.sizeOf_lt_of_mem (A4f h);Pz w b' (o'+i*6) kids[i])
theorem Ack (w:World)(b o:Nat)(n:Stil.Net)(coils:List Stil.Elem)(kids:List Stil.Arm):Pz w b o ⟨n,coils,kids⟩=(Nw w b o n/\(∃cv,w.cell? ⟨b,o+4,none⟩=some cv/\En w cv coils)/\
   ∃a cap,w.cell? ⟨b,o+5,none⟩=some (.slice a kids.length cap)/\∀i (h:i<kids.length),∃b' o',a=some ⟨b',o',none⟩/\b'<w.heap.size/\Pz w b' (o'+i*6) kids[i]):=by rw[Pz]
def Dj (w:World)(v:Value)(l:List Stil.Arm):Prop:=∃a cap,v=.slice a l.length cap/\∀i (h:i<l.length),∃b o,a=some ⟨b,o,none⟩/\b<w.heap.size/\Pz w b (o+i*6) l[i]
theorem Pz.below {w:World}(hb:Below w.heap.size w w'):∀(n:Stil.Arm) (b o:Nat),Pz w b o n->b<w.heap.size->Pz w' b o n:=by
 intro n;induction n using Fg with
 | h n coils kids ih=>
  intro b o h hlt;rw[Ack] at h ⊢;obtain⟨h1,⟨cv,h3,h4⟩,a,cap,h5,h6⟩:=h;refine⟨Nw.below hb _ _ _ h1 hlt,⟨cv,?_,h4.below hb⟩,a,cap,?_,λi hi=>?_⟩
  ·rw[hb.cell (p:=⟨b,o+4,none⟩) hlt];exact h3
  ·rw[hb.cell (p:=⟨b,o+5,none⟩) hlt];exact h5
  ·exact zE0
theorem Dj.below {w:World}{ns:List Stil.Arm}(h:Dj w v ns)(hb:Below w.heap.size w w'):Dj w' v ns:=by
 obtain⟨a,cap,hv,hc⟩:=h;refine⟨a,cap,hv,λi hi=>?_⟩;obtain⟨b,o,ha,hlt,hn⟩:=hc i hi;exact⟨b,o,ha,A37 hlt hb.size,Pz.below hb _ _ _ hn hlt⟩
theorem Nw.open {w:World}{b:Nat}{n:Stil.Net}(h:Nw w b o n):w.cell? ⟨b,o,none⟩=some (.int .i64 n.kind)/\w.cell? ⟨b,o+1,none⟩=some (.int .i64 n.one.op)/\
   ∃av kv,w.cell? ⟨b,o+2,none⟩=some av/\w.cell? ⟨b,o+3,none⟩=some kv/\Bi w av n.one.args/\Dx w kv n.kids:=by
 obtain⟨k,e,kids⟩:=n;obtain⟨h1,h2,⟨av,h3,h4⟩,kv,h5,h6⟩:=(Aek _ _ _ _ _ _).1 h;exact⟨h1,h2,av,kv,h3,h5,h4,h6⟩
theorem Pz.open {w:World}{b:Nat}{n:Stil.Arm}(h:Pz w b o n):Nw w b o n.net/\∃cv kv,w.cell? ⟨b,o+4,none⟩=some cv/\w.cell? ⟨b,o+5,none⟩=some kv/\En w cv n.coils/\Dj w kv n.kids:=by
 obtain⟨n,coils,kids⟩:=n;rw[Ack] at h;obtain⟨h1,⟨cv,h3,h4⟩,a,cap,h5,h6⟩:=h;exact⟨h1,cv,_,h3,h5,h4,a,cap,rfl,h6⟩
def Ns (lo:Nat)(w w':World):Prop:=w.heap.size<=w'.heap.size/\∀b o,lo<=b->b<w.heap.size->w'.cell? ⟨b,o,none⟩=w.cell? ⟨b,o,none⟩
theorem Ns.of_below {w:World}(h:Below w.heap.size w w'):Ns lo w w':=⟨h.size,λb o _ hb=>h.cell (p:=⟨b,o,none⟩) hb⟩
theorem Ba {b c:Nat}(h:c≠b):(W.setCell ⟨b,o,none⟩ v).cell? ⟨c,p,none⟩=W.cell? ⟨c,p,none⟩:=by
 simp[go_sem]
theorem Bh {b:Nat}(h:p≠o):(W.setCell ⟨b,o,none⟩ v).cell? ⟨b,p,none⟩=W.cell? ⟨b,p,none⟩:=by
 simp[go_sem]
theorem Fp {b:Nat}{u:Value}(h:W.cell? ⟨b,o,none⟩=some u):(W.setCell ⟨b,o,none⟩ v).cell? ⟨b,o,none⟩=some v:=by
 simp[go_sem,h]
theorem F9 (W:World)(p:Addr)(v:Value):W.heap.size<=(W.setCell p v).heap.size:=((Below.refl 0 W).setCell (Nat.zero_le _) v).size
def Hl (lo:Nat)(w:World)(v:Value)(ds:List Stil.Dev):Prop:=∃a cap,v=.slice a ds.length cap/\∀i (h:i<ds.length),∃b o,a=some ⟨b,o,none⟩/\lo<=b/\b<w.heap.size/\Ij w b (o+i*3) ds[i]
theorem Ij.keep {w:World}{b:Nat}{d:Stil.Dev}(h:Ij w b o d)(hk:Ns lo w w')(hl:lo<=b)(hb:b<w.heap.size):Ij w' b o d:=by
 obtain⟨h1,h2,h3⟩:=h;exact⟨by rw[hk.2 _ _ hl hb];exact h1,by rw[hk.2 _ _ hl hb];exact h2,by rw[hk.2 _ _ hl hb];exact h3⟩
theorem Hl.keep {w:World}{ds:List Stil.Dev}(h:Hl lo w v ds)(hk:Ns lo w w'):Hl lo w' v ds:=by
 obtain⟨a,cap,hv,hc⟩:=h;refine⟨a,cap,hv,λi hi=>?_⟩;obtain⟨b,o,ha,hl,hb,hd⟩:=hc i hi;exact⟨b,o,ha,hl,A37 hb hk.1,hd.keep hk hl hb⟩
theorem Hl.at {w:World}{ds:List Stil.Dev}(h:Hl lo w v ds):Bi w v ds:=by
 obtain⟨a,cap,hv,hc⟩:=h;refine⟨a,cap,hv,λi hi=>?_⟩;obtain⟨b,o,ha,hl',hb,hd⟩:=hc i hi;exact⟨b,o,ha,hb,hd⟩
theorem Hl.of_owns {w:World}{base:Nat}{ds:List Stil.Dev}(h:w.ownsRow base 86 3 v ds.length (Cb ds)):Hl base w v ds:=by
 by_cases hd:ds.length=0
 ·exact zo0
 ·obtain⟨g,cap,hv,hbase,hlt,_,hc⟩:=Az h omz
  refine⟨_,cap,hv,λi hi=>⟨g,0,rfl,hbase,hlt,?_⟩⟩;obtain⟨a1,a2,a3⟩:=Nj ds i hi;unfold Ij;rw[A4h];exact⟨hc _ _ a1,hc _ _ a2,hc _ _ a3⟩
def J3 (lo:Nat)(w:World):Nat->Nat->Stil.Net->Prop
 | b,o,⟨k,e,kids⟩=>w.cell? ⟨b,o,none⟩=some (.int .i64 k)/\w.cell? ⟨b,o+1,none⟩=some (.int .i64 e.op)/\
   (∃av,w.cell? ⟨b,o+2,none⟩=some av/\Hl lo w av e.args)/\
   ∃a cap,w.cell? ⟨b,o+3,none⟩=some (.slice a kids.length cap)/\∀i (h:i<kids.length),∃b' o',a=some ⟨b',o',none⟩/\lo<=b'/\b'<w.heap.size/\
    (have:=List.sizeOf_lt_of_mem (A4f h);J3 lo w b' (o'+i*4) kids[i])
theorem Aa4 (lo:Nat)(w:World)(b o:Nat)(k:Int)(e:Stil.Elem)(kids:List Stil.Net):J3 lo w b o ⟨k,e,kids⟩=(w.cell? ⟨b,o,none⟩=some (.int .i64 k)/\w.cell? ⟨b,o+1,none⟩=some (.int .i64 e.op)/\
   (∃av,w.cell? ⟨b,o+2,none⟩=some av/\Hl lo w av e.args)/\
   ∃a cap,w.cell? ⟨b,o+3,none⟩=some (.slice a kids.length cap)/\∀i (h:i<kids.length),∃b' o',a=some ⟨b',o',none⟩/\lo<=b'/\b'<w.heap.size/\J3 lo w b' (o'+i*4) kids[i]):=by rw[J3]
def Sr (lo:Nat)(w:World)(v:Value)(ns:List Stil.Net):Prop:=∃a cap,v=.slice a ns.length cap/\∀i (h:i<ns.length),∃b o,a=some ⟨b,o,none⟩/\lo<=b/\b<w.heap.size/\J3 lo w b (o+i*4) ns[i]
theorem Aej (lo:Nat)(w:World)(b o:Nat)(n:Stil.Net):J3 lo w b o n↔(w.cell? ⟨b,o,none⟩=some (.int .i64 n.kind)/\w.cell? ⟨b,o+1,none⟩=some (.int .i64 n.one.op)/\
   (∃av,w.cell? ⟨b,o+2,none⟩=some av/\Hl lo w av n.one.args)/\∃kv,w.cell? ⟨b,o+3,none⟩=some kv/\Sr lo w kv n.kids):=by
 obtain⟨k,e,kids⟩:=n;rw[Aa4];constructor
 ·rintro⟨h1,h2,h3,a,cap,h4,h5⟩;exact⟨h1,h2,h3,_,h4,a,cap,rfl,h5⟩
 ·rintro⟨h1,h2,h3,_,h4,a,cap,rfl,h5⟩;exact⟨h1,h2,h3,a,cap,h4,h5⟩
theorem zh0 {p:Prop}(h:p:=by
 obtain⟨b',o',ha,hlo,hl',hn⟩:=h6 i hi
 exact⟨b',o',ha,hlo,A37 hl' hk.1,ih _ (A4f hi) b' _ hn hlo hl'⟩):p:=h
theorem J3.keep {w:World}(hk:Ns lo w w'):∀(n:Stil.Net) (b o:Nat),J3 lo w b o n->lo<=b->b<w.heap.size->J3 lo w' b o n:=by
 intro n;induction n using Fh with
 | h k e kids ih=>
  intro b o h hl hlt;rw[Aa4] at h ⊢;obtain⟨h1,h2,⟨av,h3,h4⟩,a,cap,h5,h6⟩:=h;refine⟨?_,?_,⟨av,?_,h4.keep hk⟩,a,cap,?_,λi hi=>?_⟩
  ·rw[hk.2 _ _ hl hlt];exact h1
  ·rw[hk.2 _ _ hl hlt];exact h2
  ·rw[hk.2 _ _ hl hlt];exact h3
  ·rw[hk.2 _ _ hl hlt];exact h5
  ·exact zh0
theorem J3.at {w:World}:∀(n:Stil.Net) (b o:Nat),J3 lo w b o n->Nw w b o n:=by
 intro n;induction n using Fh with
 | h k e kids ih=>
  intro b o h;rw[Aa4] at h;rw[Ach];obtain⟨h1,h2,⟨av,h3,h4⟩,a,cap,h5,h6⟩:=h;refine⟨h1,h2,⟨av,h3,h4.at⟩,a,cap,h5,λi hi=>?_⟩;obtain⟨b',o',ha,hlo,hl',hn⟩:=h6 i hi;exact⟨b',o',ha,hl',ih _ (A4f hi) b' _ hn⟩
theorem Sr.at {w:World}{ns:List Stil.Net}(h:Sr lo w v ns):Dx w v ns:=by
 obtain⟨a,cap,hv,hc⟩:=h;refine⟨a,cap,hv,λi hi=>?_⟩;obtain⟨b,o,ha,hl',hb,hd⟩:=hc i hi;exact⟨b,o,ha,hb,J3.at _ _ _ hd⟩
def Acj (lo:Nat)(w:World)(b o:Nat)(e:Stil.Elem):Prop:=w.cell? ⟨b,o,none⟩=some (.int .i64 e.op)/\∃av,w.cell? ⟨b,o+1,none⟩=some av/\Hl lo w av e.args
def J5 (lo:Nat)(w:World)(v:Value)(es:List Stil.Elem):Prop:=∃a cap,v=.slice a es.length cap/\∀i (h:i<es.length),∃b o,a=some ⟨b,o,none⟩/\lo<=b/\b<w.heap.size/\Acj lo w b (o+i*2) es[i]
theorem Acj.keep {w:World}{b:Nat}{e:Stil.Elem}(h:Acj lo w b o e)(hk:Ns lo w w')(hl:lo<=b)(hb:b<w.heap.size):Acj lo w' b o e:=by
 obtain⟨h1,av,h2,h3⟩:=h;exact⟨by rw[hk.2 _ _ hl hb];exact h1,av,by rw[hk.2 _ _ hl hb];exact h2,h3.keep hk⟩
theorem J5.keep {w:World}{es:List Stil.Elem}(h:J5 lo w v es)(hk:Ns lo w w'):J5 lo w' v es:=by
 obtain⟨a,cap,hv,hc⟩:=h;refine⟨a,cap,hv,λi hi=>?_⟩;obtain⟨b,o,ha,hl,hb,hd⟩:=hc i hi;exact⟨b,o,ha,hl,A37 hb hk.1,hd.keep hk hl hb⟩
theorem J5.at {w:World}{es:List Stil.Elem}(h:J5 lo w v es):En w v es:=by
 obtain⟨a,cap,hv,hc⟩:=h;refine⟨a,cap,hv,λi hi=>?_⟩;obtain⟨b,o,ha,hl',hb,h1,av,h2,h3⟩:=hc i hi;exact⟨b,o,ha,hb,h1,av,h2,h3.at⟩
def Oh (lo:Nat)(w:World):Nat->Nat->Stil.Arm->Prop
 | b,o,⟨n,coils,kids⟩=>J3 lo w b o n/\(∃cv,w.cell? ⟨b,o+4,none⟩=some cv/\J5 lo w cv coils)/\
   ∃a cap,w.cell? ⟨b,o+5,none⟩=some (.slice a kids.length cap)/\∀i (h:i<kids.length),∃b' o',a=some ⟨b',o',none⟩/\lo<=b'/\b'<w.heap.size/\
    (have:=List.sizeOf_lt_of_mem (A4f h);Oh lo w b' (o'+i*6) kids[i])
theorem Aa7 (lo:Nat)(w:World)(b o:Nat)(n:Stil.Net)(coils:List Stil.Elem)(kids:List Stil.Arm):Oh lo w b o ⟨n,coils,kids⟩=(J3 lo w b o n/\(∃cv,w.cell? ⟨b,o+4,none⟩=some cv/\J5 lo w cv coils)/\
   ∃a cap,w.cell? ⟨b,o+5,none⟩=some (.slice a kids.length cap)/\∀i (h:i<kids.length),∃b' o',a=some ⟨b',o',none⟩/\lo<=b'/\b'<w.heap.size/\Oh lo w b' (o'+i*6) kids[i]):=by rw[Oh]
def Py (lo:Nat)(w:World)(v:Value)(l:List Stil.Arm):Prop:=∃a cap,v=.slice a l.length cap/\∀i (h:i<l.length),∃b o,a=some ⟨b,o,none⟩/\lo<=b/\b<w.heap.size/\Oh lo w b (o+i*6) l[i]
theorem Ane (lo:Nat)(w:World)(b o:Nat)(n:Stil.Arm):Oh lo w b o n↔(J3 lo w b o n.net/\(∃cv,w.cell? ⟨b,o+4,none⟩=some cv/\J5 lo w cv n.coils)/\∃kv,w.cell? ⟨b,o+5,none⟩=some kv/\Py lo w kv n.kids):=by
 obtain⟨k,e,kids⟩:=n;rw[Aa7];constructor
 ·rintro⟨h1,h3,a,cap,h4,h5⟩;exact⟨h1,h3,_,h4,a,cap,rfl,h5⟩
 ·rintro⟨h1,h3,_,h4,a,cap,rfl,h5⟩;exact⟨h1,h3,a,cap,h4,h5⟩
theorem Oh.keep {w:World}(hk:Ns lo w w'):∀(n:Stil.Arm) (b o:Nat),Oh lo w b o n->lo<=b->b<w.heap.size->Oh lo w' b o n:=by
 intro n;induction n using Fg with
 | h n coils kids ih=>
  intro b o h hl hlt;rw[Aa7] at h ⊢;obtain⟨h1,⟨cv,h3,h4⟩,a,cap,h5,h6⟩:=h;refine⟨J3.keep hk _ _ _ h1 hl hlt,⟨cv,?_,h4.keep hk⟩,a,cap,?_,λi hi=>?_⟩
  ·rw[hk.2 _ _ hl hlt];exact h3
  ·rw[hk.2 _ _ hl hlt];exact h5
  ·exact zh0
theorem Py.keep {w:World}{ns:List Stil.Arm}(h:Py lo w v ns)(hk:Ns lo w w'):Py lo w' v ns:=by
 obtain⟨a,cap,hv,hc⟩:=h;refine⟨a,cap,hv,λi hi=>?_⟩;obtain⟨b,o,ha,hl,hb,hd⟩:=hc i hi;exact⟨b,o,ha,hl,A37 hb hk.1,Oh.keep hk _ _ _ hd hl hb⟩
theorem Oh.at {w:World}:∀(n:Stil.Arm) (b o:Nat),Oh lo w b o n->Pz w b o n:=by
 intro n;induction n using Fg with
 | h n coils kids ih=>
  intro b o h;rw[Aa7] at h;rw[Ack];obtain⟨h1,⟨cv,h3,h4⟩,a,cap,h5,h6⟩:=h;refine⟨J3.at _ _ _ h1,⟨cv,h3,h4.at⟩,a,cap,h5,λi hi=>?_⟩;obtain⟨b',o',ha,hlo,hl',hn⟩:=h6 i hi;exact⟨b',o',ha,hl',ih _ (A4f hi) b' _ hn⟩
theorem Py.at {w:World}{ns:List Stil.Arm}(h:Py lo w v ns):Dj w v ns:=by
 obtain⟨a,cap,hv,hc⟩:=h;refine⟨a,cap,hv,λi hi=>?_⟩;obtain⟨b,o,ha,hl',hb,hd⟩:=hc i hi;exact⟨b,o,ha,hb,Oh.at _ _ _ hd⟩
structure Jg (C:Nat->Prop)(W W':World):Prop where
 size:W.heap.size<=W'.heap.size
 same:∀(k:Nat) (o:Obj),¬C k->W.heap[k]?=some o->o.isCells=true->W'.heap[k]?=some o
theorem Jg.refl (C:Nat->Prop)(W:World):Jg C W W:=⟨A4d _,λ_ _ _ h _=>h⟩
theorem Jg.trans {C:Nat->Prop}(h:Jg C X Y)(k:Jg C Y Z):Jg C X Z:=⟨A4k h.size k.size,λi o hc hi ho=>k.same i o hc (h.same i o hc hi ho) ho⟩
theorem Jg.of_below {C:Nat->Prop}(h:Below W.heap.size W W'):Jg C W W':=
 ⟨h.size,λk _ _ hk _=>(h.block k (Array.getElem?_eq_some_iff.1 hk).1).trans hk⟩
theorem Jg.drew {C:Nat->Prop}(h:Jg C W W'):Jg C W W'.drew:=⟨h.size,h.same⟩
theorem Jg.call {C:Nat->Prop}(h:Jg C W X)(hb:Below X.heap.size X Y):Jg C W Y:=h.trans (.of_below hb)
theorem Jg.set {C:Nat->Prop}{b:Nat}(h:Jg C W W')(hb:C b)(v:Value):Jg C W (W'.setCell ⟨b,o,none⟩ v):=
 h.trans ⟨by simp[World.setCell],λk _ hc hk _=>(Below.heap_setCell W' ⟨b,o,none⟩ v k (λe=>hc (by rw[e];exact hb))).trans hk⟩
theorem Jg.putObj {C:Nat->Prop}(W:World){o:Obj}(o':Obj)(h:W.heap[l]?=some o)(ho:o.isCells=false):Jg C W (W.putObj l o'):=
 ⟨by simp[World.putObj],λk p _ hk hp=>by
  by_cases e:k=l
  ·subst e
   rw[h] at hk;cases hk;rw[ho] at hp;cases hp
  ·rw[World.putObj_heap_other e];exact hk⟩
theorem Jg.cell {C:Nat->Prop}(h:Jg C W W'){b:Nat}(hb:¬C b)(hc:W.cell? ⟨b,o,none⟩=some v):W'.cell? ⟨b,o,none⟩=some v:=by
 obtain⟨p,hp,hq⟩:=cells_of_cell hc;exact(World.cell?_of_block (w:=W) ((h.same b p hb hp hq).trans hp.symm)).trans hc
theorem Bv {b:Nat}(h:W.cell? ⟨b,o,none⟩=some v):b<W.heap.size:=by
 obtain⟨p,hp,_⟩:=cells_of_cell h;exact(Array.getElem?_eq_some_iff.1 hp).1
def Kept (n₀:Nat)(C:Nat->Prop)(W W':World):Prop:=Below n₀ W W'/\Jg C W W'
theorem Kept.t {C:Nat->Prop}(h:Kept n₀ C X Y)(k:Kept n₀ C Y Z):Kept n₀ C X Z:=⟨h.1.trans k.1,h.2.trans k.2⟩
theorem Kept.b {C:Nat->Prop}{w:World}(hn:n₀<=w.heap.size)(W:World)(l:Nat)(o o':Obj)(hl:w.heap.size<=l)(h:W.heap[l]?=some o)(hc:o.isCells=false)(hw:o.isWalk=false):Kept n₀ C W (W.putObj l o'):=
 ⟨belowK_b hn W l o o' hl h hc hw,Jg.putObj W o' h hc⟩
theorem Kept.refl (n₀:Nat)(C:Nat->Prop)(W:World):Kept n₀ C W W:=⟨Below.refl _ _,Jg.refl _ _⟩
theorem Kept.of_below {C:Nat->Prop}(hn:n₀<=W.heap.size)(h:Below W.heap.size W W'):Kept n₀ C W W':=⟨h.mono hn, .of_below h⟩
structure Rj (w:World)(P:Stil.Net->Prop) where
 net:Stil.Net
 av:Value
 kv:Value
 hav:Bi w av net.one.args
 hkv:Dx w kv net.kids
 mem:P net
structure Pv (w:World)(P:Stil.Arm->Prop) where
 arm:Stil.Arm
 av:Value
 nv:Value
 cv:Value
 kv:Value
 hav:Bi w av arm.net.one.args
 hnv:Dx w nv arm.net.kids
 hcv:En w cv arm.coils
 hkv:Dj w kv arm.kids
 mem:P arm
def Ou (w:World)(C:Nat->Prop)(W:World)(v:Value)(l:List Stil.Net):Prop:=∃a cap,v=.slice a l.length cap/\∀i (h:i<l.length),∃b o,a=some ⟨b,o,none⟩/\¬C b/\
 ∃av kv,W.cell? ⟨b,o+i*4,none⟩=some (.int .i64 l[i].kind)/\W.cell? ⟨b,o+i*4+1,none⟩=some (.int .i64 l[i].one.op)/\W.cell? ⟨b,o+i*4+2,none⟩=some av/\W.cell? ⟨b,o+i*4+3,none⟩=some kv/\Bi w av l[i].one.args/\Dx w kv l[i].kids
theorem Ou.keep {w:World}{C:Nat->Prop}{l:List Stil.Net}(h:Ou w C W v l)(hk:Jg C W W'):Ou w C W' v l:=by
 obtain⟨a,cap,hv,hc⟩:=h;refine⟨a,cap,hv,λi hi=>?_⟩;obtain⟨b,o,ha,hb,av,kv,x0,x1,x2,x3,h1,h2⟩:=hc i hi;exact⟨b,o,ha,hb,av,kv,hk.cell hb x0,hk.cell hb x1,hk.cell hb x2,hk.cell hb x3,h1,h2⟩
theorem Ou.of_at {w:World}{C:Nat->Prop}{l:List Stil.Net}(h:Dx w v l)(hb:Below w.heap.size w W)(hC:∀k,C k->w.heap.size<=k):Ou w C W v l:=by
 obtain⟨a,cap,hv,hc⟩:=h;refine⟨a,cap,hv,λi hi=>?_⟩;obtain⟨b,o,ha,hlt,hn⟩:=hc i hi;obtain⟨x0,x1,av,kv,x2,x3,h1,h2⟩:=hn.open;exact⟨b,o,ha,λh=>by have:=hC b h;omega,av,kv,(hb.cell (p:=⟨b,_,none⟩) hlt).trans x0,(hb.cell (p:=⟨b,_,none⟩) hlt).trans x1,(hb.cell (p:=⟨b,_,none⟩) hlt).trans x2,(hb.cell (p:=⟨b,_,none⟩) hlt).trans x3,h1,h2⟩
def Nu (w:World)(C:Nat->Prop)(W:World)(v:Value)(l:List Stil.Arm):Prop:=∃a cap,v=.slice a l.length cap/\∀i (h:i<l.length),∃b o,a=some ⟨b,o,none⟩/\¬C b/\
 ∃av nv cv kv,W.cell? ⟨b,o+i*6,none⟩=some (.int .i64 l[i].net.kind)/\W.cell? ⟨b,o+i*6+1,none⟩=some (.int .i64 l[i].net.one.op)/\W.cell? ⟨b,o+i*6+2,none⟩=some av/\W.cell? ⟨b,o+i*6+3,none⟩=some nv/\
  W.cell? ⟨b,o+i*6+4,none⟩=some cv/\W.cell? ⟨b,o+i*6+5,none⟩=some kv/\Bi w av l[i].net.one.args/\Dx w nv l[i].net.kids/\En w cv l[i].coils/\Dj w kv l[i].kids
theorem Nu.keep {w:World}{C:Nat->Prop}{l:List Stil.Arm}(h:Nu w C W v l)(hk:Jg C W W'):Nu w C W' v l:=by
 obtain⟨a,cap,hv,hc⟩:=h;refine⟨a,cap,hv,λi hi=>?_⟩;obtain⟨b,o,ha,hb,av,nv,cv,kv,x0,x1,x2,x3,x4,x5,h1⟩:=hc i hi;exact⟨b,o,ha,hb,av,nv,cv,kv,hk.cell hb x0,hk.cell hb x1,hk.cell hb x2,hk.cell hb x3,hk.cell hb x4,hk.cell hb x5,h1⟩
theorem Nu.of_at {w:World}{C:Nat->Prop}{l:List Stil.Arm}(h:Dj w v l)(hb:Below w.heap.size w W)(hC:∀k,C k->w.heap.size<=k):Nu w C W v l:=by
 obtain⟨a,cap,hv,hc⟩:=h;refine⟨a,cap,hv,λi hi=>?_⟩;obtain⟨b,o,ha,hlt,hn⟩:=hc i hi;obtain⟨hna,cv,kv,x4,x5,h3,h4⟩:=hn.open;obtain⟨x0,x1,av,nv,x2,x3,h1,h2⟩:=hna.open;exact⟨b,o,ha,λh=>by have:=hC b h;omega,av,nv,cv,kv,(hb.cell (p:=⟨b,_,none⟩) hlt).trans x0,(hb.cell (p:=⟨b,_,none⟩) hlt).trans x1,(hb.cell (p:=⟨b,_,none⟩) hlt).trans x2,(hb.cell (p:=⟨b,_,none⟩) hlt).trans x3,(hb.cell (p:=⟨b,_,none⟩) hlt).trans x4,(hb.cell (p:=⟨b,_,none⟩) hlt).trans x5,h1,h2,h3,h4⟩
theorem Vh (h:KeepsFrom B W X)(p:Addr)(v:Value):KeepsFrom B W (X.setCell p v):=h.trans ((KeepsOthers.setCell X p v).from B)
theorem Pn (h:KeepsFrom B W X)(hb:Below X.heap.size X Y):KeepsFrom B W Y:=h.trans ⟨hb.size,λk _ _ hk _=>(hb.block k (Array.getElem?_eq_some_iff.1 hk).1).trans hk⟩
theorem Pm (h:KeepsFrom B W X):KeepsFrom B W X.drew:=h.trans ((KeepsOthers.drew X).from B)
theorem Lh (h:KeepsFrom B W X)(o:Obj):KeepsFrom B W (X.alloc o):=h.trans ((KeepsOthers.alloc X o).from B)
theorem Ajf {C:Nat->Prop}{b:Nat}(h:Kept n₀ C W X)(hb:n₀<=b)(hc:C b)(v:Value):Kept n₀ C W (X.setCell ⟨b,o,none⟩ v):=⟨h.1.setCell (p:=⟨b,o,none⟩) hb v,h.2.set hc v⟩
theorem Uy {C:Nat->Prop}(h:Kept n₀ C W X)(hn:n₀<=W.heap.size)(hb:Below X.heap.size X Y):Kept n₀ C W Y:=h.t (Kept.of_below (A4k hn h.2.size) hb)
theorem Avb {C:Nat->Prop}(h:Kept n₀ C W X):Kept n₀ C W X.drew:=⟨h.1.drew,h.2.drew⟩
theorem Nk {b:Nat}(ob:Obj)(h:W.cell? ⟨b,o,none⟩=some v):(W.alloc ob).cell? ⟨b,o,none⟩=some v:=((Aa W ob).cell (p:=⟨b,o,none⟩) (Bv h)).trans h
theorem Oa {b:Nat}(ob:Obj)(h:W.cell? ⟨b,o,none⟩=some v)(hf:W.frozen? ⟨b,o,none⟩=false):(W.alloc ob).frozen? ⟨b,o,none⟩=false:=((Aa W ob).frozen (p:=⟨b,o,none⟩) (Bv h)).trans hf
theorem share {T G:Prop}(hf:T->G)(ht:T):G:=hf ht
theorem room_of_none (hd:F.depth=none)(k:Nat):F.room k:=λd h=>by rw[hd] at h;cases h
theorem RoundIn.anyDepth (hd:F.depth=none){m':Nat}{f:FuncId}{tmps:Array Value}{assign body:Code}{w:World}{R:Ending->World->Prop}
  (h:RoundIn F m P l f tmps assign body w R):RoundIn F m' P l f tmps assign body w R:=⟨h.1,λc cs _=>h.2 c cs (room_of_none hd _)⟩
theorem YieldAt.anyDepth (hd:F.depth=none)(m':Nat){args:Array Value}{R:Ending->World->Prop}(h:YieldAt F m P l args W R):YieldAt F m' P l args W R:=by
 obtain⟨fn,tmps,assign,body,hy,hR⟩:=h;exact⟨fn,tmps,assign,body,hy,RoundIn.anyDepth hd hR⟩
end Go.Proofs.YtbfljjcnbbmoaaaGreatDoor
set_option maxHeartbeats 4000000
set_option maxRecDepth 100000
namespace Go.Proofs.YtbfljjcnbbmoaaaGreatDoor
open Stil
open Go.RowKit Go.Sort Go.BigFrame
theorem I7 (l:List Nat)(i:Nat)(h:i<l.length):(l.take (i+1)).sum=(l.take i).sum+l[i]:=by
 rw[A4r h,List.sum_append,List.sum_cons,List.sum_nil,Nat.add_zero]
theorem Hm:∀(l:List Nat) (i:Nat),(l.take i).sum<=l.sum
 | [],i=>by simp
 | x::r,0=>by simp
 | x::r,i+1=>by have:=Hm r i;simp;omega
theorem Atu (n:Stil.Net):∀(av kv:Value) (w:World),Bi w av n.one.args->Dx w kv n.kids->Aj n<=1000000000->
  Calls Tryz.prog 102 #[.agg #[.int .i64 n.kind, .int .i64 n.one.op,av,kv]] w λe w'=>e=.returned (.int .i64 (Aj n))/\Below w.heap.size w w':=by
 induction n using Fh with
 | h k e kids ih=>
  intro av kv w hav hkv hsz;have IH:=hid ih;clear ih;have HZ:=hid (Lu k e kids);have hsum:(kids.map Aj).sum<=1000000000:=by have:=HZ.out;omega
  obtain⟨a,cap,rfl,hc⟩:=hkv;have HC:Hid (∀i (h:i<kids.length),∃b o,a=some ⟨b,o,none⟩/\b<w.heap.size/\Nw w b (o+i*4) kids[i]):=hc;obtain⟨aa,cO,rfl,_⟩:=hav;have hlen:kids.length<=1000000000:=by
   have:∀l:List Stil.Net,l.length<=(l.map Aj).sum:=by
    intro l;induction l with
    | nil=>simp
    | cons x r ih=>simp only[A4q,List.sum_cons,A39];have:1<=Aj x:=(by(obtain⟨_,_,_⟩:=x;rw[Lu];omega));omega
   have:=this kids;omega
  clear hc hsz;go_enter Tryz.func102,Tryz.ntmps102
  go_wp2
  go_loopw [3,4] (λacc i wr=>∃j:Nat,j<=kids.length/\i=.int .i64 j/\acc=.int .i64 (1+((kids.map Aj).take j).sum:Nat)/\Below (w.heap.size+1) (w.alloc (.cells #[.int .i64 k, .int .i64 e.op, .slice aa e.args.length cO, .slice a kids.length cap] 52)) wr) (λ_ i _=>kids.length - (intOf i).toNat)
  case atStart=>exact⟨0,omz,rfl,spz,Below.refl _ _⟩
  case round=>
   obtain⟨j,hj,rfl,rfl,hB⟩:=hrel;have hz:w.heap.size<wr.heap.size:=by have:=hB.size;simp at this;omega
   have c0:wr.cell? ⟨w.heap.size,0,none⟩=some (.int .i64 k):=clA hB;have f0:wr.frozen? ⟨w.heap.size,0,none⟩=false:=frA hB;have c1:wr.cell? ⟨w.heap.size,1,none⟩=some (.int .i64 e.op):=clA hB;have f1:wr.frozen? ⟨w.heap.size,1,none⟩=false:=frA hB;have c2:wr.cell? ⟨w.heap.size,2,none⟩=some (.slice aa e.args.length cO):=clA hB;have f2:wr.frozen? ⟨w.heap.size,2,none⟩=false:=frA hB;have c3:wr.cell? ⟨w.heap.size,3,none⟩=some (.slice a kids.length cap):=clA hB;have f3:wr.frozen? ⟨w.heap.size,3,none⟩=false:=frA hB;have hbw:=(Aa _ _).trans (hB.mono omz);have hle:=Hm (kids.map Aj) j;by_cases hlt:j<kids.length
   ·obtain⟨b,o,rfl,hbl,hn⟩:=HC j hlt
    obtain⟨x0,x1,av,kv,x2,x3,hav,hkv⟩:=(Nw.below hbw _ _ _ hn hbl).open;have hsucc:=I7 (kids.map Aj) j (by simpa using hlt);have hle2:=Hm (kids.map Aj) (j+1);rw[List.getElem_map] at hsucc;have HI:=hid (λW hW=>IH kids[j] (A4f hlt) av kv W (hav.below hW) (hkv.below hW) omz);obtain⟨s,hs⟩:∃s,s=Aj kids[j]:=⟨_,rfl⟩
    obtain⟨x,hx⟩:∃x,x=kids[j]:=⟨_,rfl⟩
    rw[<-hs] at HI hsucc;rw[<-hx] at HI x0 x1;obtain⟨aa',bn,rfl,_⟩:=hav;obtain⟨a',cap',rfl,_⟩:=hkv;generalize hA1:((kids.map Aj).take j).sum=A1 at hsucc hle ⊢;have HS:=hid hsucc;have hsb:A1+s<=1000000000:=omz
    clear hs hx hn hA1 hsucc hle2 hle hsum
    go_wp2_with (go_at_call 102;refine(HI _ blB).mono ?_;rintro e w2 ⟨rfl,hb2⟩)
    refine⟨⟨j+1,omz,by go_num,?_,hB.trans (hb2.mono hz)⟩,by simp[intOf];omega⟩;rw[HS.out];congr 1;omega
   ·go_wp2
    go_ret;refine⟨C9 ?_,hbw⟩;rw[HZ.out,A43 (by simp;omega)]
theorem Zf (n:Stil.Net)(av kv:Value)(w:World)(hav:Bi w av n.one.args)(hkv:Dx w kv n.kids)(_h1:n.one.args.length<=9223372036854775807)(_h2:n.kids.length<=9223372036854775807):
  Calls Tryz.prog 62 #[.agg #[.int .i64 n.kind, .int .i64 n.one.op,av,kv]] w λe w'=>e=.returned (.bool (Aq n))/\Below w.heap.size w w':=by
 obtain⟨aa,cO,rfl,_⟩:=hav;obtain⟨a,cap,rfl,_⟩:=hkv;obtain⟨la,hla⟩:∃la,la=n.one.args.length:=⟨_,rfl⟩
 obtain⟨lk,hlk⟩:∃lk,lk=n.kids.length:=⟨_,rfl⟩
 have HN:Hid (Aq n=(n.kind==0 && n.one.op==0 && la==0 && lk==0)):=by
  show _=_
  unfold Aq;rw[hla,hlk]
 rw[<-hla,<-hlk];rw[<-hla] at _h1;rw[<-hlk] at _h2;clear hla hlk;go_enter Tryz.func62,Tryz.ntmps62
 go_wp2
 all_goals go_ret
 all_goals (refine⟨Ar ?_,blB⟩)
 all_goals rw[HN.out]
 all_goals go_light
 all_goals (rw[Bool.eq_iff_iff];simp[*];try omega)
theorem Jz (x:Stil.Arm):1<=Ak x:=by obtain⟨_,_,_⟩:=x;rw[Qe];omega
theorem Aas {α:Type}(f:α->Nat)(hf:∀x,1<=f x):∀l:List α,l.length<=(l.map f).sum
 | []=>by simp
 | x::r=>by have:=Aas f hf r;have:=hf x;simp only[A4q,List.sum_cons,A39];omega
theorem Atw (n:Stil.Arm):∀(av nv cv kv:Value) (w:World),Bi w av n.net.one.args->Dx w nv n.net.kids->En w cv n.coils->Dj w kv n.kids->Ak n<=1000000000->Ci n->
  Calls Tryz.prog 78 #[.agg #[.int .i64 n.net.kind, .int .i64 n.net.one.op,av,nv,cv,kv]] w λe w'=>e=.returned (.int .i64 (Ak n))/\Below w.heap.size w w':=by
 induction n using Fg with
 | h n coils kids ih=>
  intro av nv cv kv w hav hnv hcv hkv hsz hft;simp only at hav hnv hcv hkv;obtain⟨hf1,hf2,_,hf4,hf5⟩:=(Em _ _ _).1 hft;obtain⟨_,he,hf6,_⟩:=Dp hf1;have hf7:=he.2.1;have IH:=hid ih;have HF:=hid hf5;clear ih hf5 hft he hf1;obtain⟨ns,hns⟩:∃ns,ns=if Aq n then 0 else Aj n:=⟨_,rfl⟩
  have HZ:Hid (Ak ⟨n,coils,kids⟩=1+coils.length+ns+(kids.map Ak).sum):=by show _=_;rw[Qe,hns]
  have hsum:1+coils.length+ns+(kids.map Ak).sum<=1000000000:=by have:=HZ.out;omega
  have gY:=hid (λW hW=>Zf n av nv W (hav.below hW) (hnv.below hW) omz omz);have fF:Hid (Aq n=false->∀W,Below w.heap.size w W->Calls Tryz.prog 102 #[.agg #[.int .i64 n.kind, .int .i64 n.one.op,av,nv]] W λe w'=>e=.returned (.int .i64 ns)/\Below W.heap.size W w'):=λh0 W hW=>by
   have e0:ns=Aj n:=by rw[hns,h0];rfl
   rw[e0];exact Atu n av nv W (hav.below hW) (hnv.below hW) omz
  have oU:Hid (Aq n=true->ns=0):=λh0=>by rw[hns,h0];rfl
  obtain⟨a,cap,rfl,hc⟩:=hkv;have HC:=hid hc;obtain⟨aa,cO,rfl,_⟩:=hav;obtain⟨na,qE,rfl,_⟩:=hnv;obtain⟨ca,rD,rfl,_⟩:=hcv;clear hc hsz hns;cases hnn:Aq n
  ·go_enter Tryz.func78,Tryz.ntmps78
   go_wp2_with (first | (go_at_call 62;refine(gY _ blB).mono ?_;rw[hnn];rintro e w1 ⟨rfl,hb1⟩;obtain⟨hc,hf⟩:=Dq hb1) | (go_at_call 102;refine(fF hnn _ blB).mono ?_;rintro e w2 ⟨rfl,hb2⟩))
   go_loopw [3,4] (λacc i wr=>∃j:Nat,j<=kids.length/\i=.int .i64 j/\acc=.int .i64 (1+coils.length+ns+((kids.map Ak).take j).sum:Nat)/\Below (w.heap.size+1) (w.alloc (.cells #[.int .i64 n.kind, .int .i64 n.one.op, .slice aa n.one.args.length cO, .slice na n.kids.length qE, .slice ca coils.length rD, .slice a kids.length cap] 55)) wr) (λ_ i _=>kids.length - (intOf i).toNat)
   case atStart=>exact⟨0,omz,rfl,spz,(hb1.mono spz).trans (hb2.mono (by have:=hb1.size;simpa using this))⟩
   case round=>
    clear hc hf hb1 hb2;obtain⟨j,hj,rfl,rfl,hB⟩:=hrel;have hz:w.heap.size<wr.heap.size:=by have:=hB.size;simp at this;omega
    have c0:wr.cell? ⟨w.heap.size,0,none⟩=some (.int .i64 n.kind):=clA hB;have f0:wr.frozen? ⟨w.heap.size,0,none⟩=false:=frA hB;have c1:wr.cell? ⟨w.heap.size,1,none⟩=some (.int .i64 n.one.op):=clA hB;have f1:wr.frozen? ⟨w.heap.size,1,none⟩=false:=frA hB;have c2:wr.cell? ⟨w.heap.size,2,none⟩=some (.slice aa n.one.args.length cO):=clA hB;have f2:wr.frozen? ⟨w.heap.size,2,none⟩=false:=frA hB;have c3:wr.cell? ⟨w.heap.size,3,none⟩=some (.slice na n.kids.length qE):=clA hB;have f3:wr.frozen? ⟨w.heap.size,3,none⟩=false:=frA hB;have c4:wr.cell? ⟨w.heap.size,4,none⟩=some (.slice ca coils.length rD):=clA hB;have f4:wr.frozen? ⟨w.heap.size,4,none⟩=false:=frA hB;have c5:wr.cell? ⟨w.heap.size,5,none⟩=some (.slice a kids.length cap):=clA hB;have f5:wr.frozen? ⟨w.heap.size,5,none⟩=false:=frA hB;have hbw:=(Aa _ _).trans (hB.mono omz);have hle:=Hm (kids.map Ak) j;by_cases hlt:j<kids.length
    ·obtain⟨b,o,rfl,hbl,hn⟩:=HC j hlt
     obtain⟨hna,cv,kv,x4,x5,hcv,hkv⟩:=(Pz.below hbw _ _ _ hn hbl).open;obtain⟨x0,x1,av,nv,x2,x3,hav,hnv⟩:=hna.open;have hsucc:=I7 (kids.map Ak) j (by simpa using hlt);have hle2:=Hm (kids.map Ak) (j+1);rw[List.getElem_map] at hsucc;have HI:=hid (λW hW=>IH kids[j] (A4f hlt) av nv cv kv W (hav.below hW) (hnv.below hW) (hcv.below hW) (hkv.below hW) omz (HF _ (A4f hlt)));obtain⟨s,hs⟩:∃s,s=Ak kids[j]:=⟨_,rfl⟩
     obtain⟨x,hx⟩:∃x,x=kids[j]:=⟨_,rfl⟩
     rw[<-hs] at HI hsucc;rw[<-hx] at HI x0 x1;obtain⟨q1,q2,rfl,_⟩:=hav;obtain⟨q3,q4,rfl,_⟩:=hnv;obtain⟨q5,q6,rfl,_⟩:=hcv;obtain⟨q7,q8,rfl,_⟩:=hkv;generalize hA1:((kids.map Ak).take j).sum=A1 at hsucc hle ⊢;have HS:=hid hsucc;have hsb:1+coils.length+ns+A1+s<=1000000000:=omz
     clear hs hx hn hna hA1 hsucc hle2 hle hsum
     go_wp2_with (go_at_call 78;refine(HI _ blB).mono ?_;rintro e w2 ⟨rfl,hb2⟩)
     refine⟨⟨j+1,omz,by go_num,?_,hB.trans (hb2.mono hz)⟩,by simp[intOf];omega⟩;rw[HS.out];congr 1;omega
    ·go_wp2
     go_ret;refine⟨C9 ?_,hbw⟩;rw[HZ.out,A43 (by simp;omega)]
  ·have hns0:=oU hnn
   subst hns0;go_enter Tryz.func78,Tryz.ntmps78
   go_wp2_with (first | (go_at_call 62;refine(gY _ blB).mono ?_;rw[hnn];rintro e w1 ⟨rfl,hb1⟩;obtain⟨hc,hf⟩:=Dq hb1))
   go_loopw [3,4] (λacc i wr=>∃j:Nat,j<=kids.length/\i=.int .i64 j/\acc=.int .i64 (1+coils.length+0+((kids.map Ak).take j).sum:Nat)/\Below (w.heap.size+1) (w.alloc (.cells #[.int .i64 n.kind, .int .i64 n.one.op, .slice aa n.one.args.length cO, .slice na n.kids.length qE, .slice ca coils.length rD, .slice a kids.length cap] 55)) wr) (λ_ i _=>kids.length - (intOf i).toNat)
   case atStart=>exact⟨0,omz,rfl,spz,hb1.mono spz⟩
   case round=>
    clear hc hf hb1;obtain⟨j,hj,rfl,rfl,hB⟩:=hrel;have hz:w.heap.size<wr.heap.size:=by have:=hB.size;simp at this;omega
    have c0:wr.cell? ⟨w.heap.size,0,none⟩=some (.int .i64 n.kind):=clA hB;have f0:wr.frozen? ⟨w.heap.size,0,none⟩=false:=frA hB;have c1:wr.cell? ⟨w.heap.size,1,none⟩=some (.int .i64 n.one.op):=clA hB;have f1:wr.frozen? ⟨w.heap.size,1,none⟩=false:=frA hB;have c2:wr.cell? ⟨w.heap.size,2,none⟩=some (.slice aa n.one.args.length cO):=clA hB;have f2:wr.frozen? ⟨w.heap.size,2,none⟩=false:=frA hB;have c3:wr.cell? ⟨w.heap.size,3,none⟩=some (.slice na n.kids.length qE):=clA hB;have f3:wr.frozen? ⟨w.heap.size,3,none⟩=false:=frA hB;have c4:wr.cell? ⟨w.heap.size,4,none⟩=some (.slice ca coils.length rD):=clA hB;have f4:wr.frozen? ⟨w.heap.size,4,none⟩=false:=frA hB;have c5:wr.cell? ⟨w.heap.size,5,none⟩=some (.slice a kids.length cap):=clA hB;have f5:wr.frozen? ⟨w.heap.size,5,none⟩=false:=frA hB;have hbw:=(Aa _ _).trans (hB.mono omz);have hle:=Hm (kids.map Ak) j;by_cases hlt:j<kids.length
    ·obtain⟨b,o,rfl,hbl,hn⟩:=HC j hlt
     obtain⟨hna,cv,kv,x4,x5,hcv,hkv⟩:=(Pz.below hbw _ _ _ hn hbl).open;obtain⟨x0,x1,av,nv,x2,x3,hav,hnv⟩:=hna.open;have hsucc:=I7 (kids.map Ak) j (by simpa using hlt);have hle2:=Hm (kids.map Ak) (j+1);rw[List.getElem_map] at hsucc;have HI:=hid (λW hW=>IH kids[j] (A4f hlt) av nv cv kv W (hav.below hW) (hnv.below hW) (hcv.below hW) (hkv.below hW) omz (HF _ (A4f hlt)));obtain⟨s,hs⟩:∃s,s=Ak kids[j]:=⟨_,rfl⟩
     obtain⟨x,hx⟩:∃x,x=kids[j]:=⟨_,rfl⟩
     rw[<-hs] at HI hsucc;rw[<-hx] at HI x0 x1;obtain⟨q1,q2,rfl,_⟩:=hav;obtain⟨q3,q4,rfl,_⟩:=hnv;obtain⟨q5,q6,rfl,_⟩:=hcv;obtain⟨q7,q8,rfl,_⟩:=hkv;generalize hA1:((kids.map Ak).take j).sum=A1 at hsucc hle ⊢;have HS:=hid hsucc;have hsb:1+coils.length+0+A1+s<=1000000000:=omz
     clear hs hx hn hna hA1 hsucc hle2 hle hsum
     go_wp2_with (go_at_call 78;refine(HI _ blB).mono ?_;rintro e w2 ⟨rfl,hb2⟩)
     refine⟨⟨j+1,omz,by go_num,?_,hB.trans (hb2.mono hz)⟩,by simp[intOf];omega⟩;rw[HS.out];congr 1;omega
    ·go_wp2
     go_ret;refine⟨C9 ?_,hbw⟩;rw[HZ.out,A43 (by simp;omega)]
theorem Ao3 (l:List Stil.Arm)(kv:Value)(w:World)(hkv:Dj w kv l)(hsz:Ce l<=1000000000)(hft:∀x∈l,Ci x):
  Calls Tryz.prog 49 #[kv] w λe w'=>e=.returned (.int .i64 (Ce l))/\Below w.heap.size w w':=by
 obtain⟨a,cap,rfl,hc⟩:=hkv;have HC:=hid hc;have HF:=hid hft;have HZ:Hid (Ce l=(l.map Ak).sum):=rfl;have hsum:(l.map Ak).sum<=1000000000:=hsz;have hll:=Aas Ak Jz l;have hlen:l.length<=1000000000:=omz
 clear hc hft hsz hll;go_enter Tryz.func49,Tryz.ntmps49
 go_wp2
 go_loopw [3,4] (λacc i wr=>∃j:Nat,j<=l.length/\i=.int .i64 j/\acc=.int .i64 (((l.map Ak).take j).sum:Nat)/\Below w.heap.size w wr) (λ_ i _=>l.length - (intOf i).toNat)
 case atStart=>exact⟨0,omz,rfl,spz,Below.refl _ _⟩
 case round=>
  obtain⟨j,hj,rfl,rfl,hbw⟩:=hrel;have hle:=Hm (l.map Ak) j;by_cases hlt:j<l.length
  ·obtain⟨b,o,rfl,hbl,hn⟩:=HC j hlt
   obtain⟨hna,cv,kv,x4,x5,hcv,hkv⟩:=(Pz.below hbw _ _ _ hn hbl).open;obtain⟨x0,x1,av,nv,x2,x3,hav,hnv⟩:=hna.open;have hsucc:=I7 (l.map Ak) j (by simpa using hlt);have hle2:=Hm (l.map Ak) (j+1);rw[List.getElem_map] at hsucc;have HI:=hid (λW hW=>Atw l[j] av nv cv kv W (hav.below hW) (hnv.below hW) (hcv.below hW) (hkv.below hW) omz (HF _ (A4f hlt)));obtain⟨s,hs⟩:∃s,s=Ak l[j]:=⟨_,rfl⟩
   obtain⟨x,hx⟩:∃x,x=l[j]:=⟨_,rfl⟩
   rw[<-hs] at HI hsucc;rw[<-hx] at HI x0 x1;obtain⟨q1,q2,rfl,_⟩:=hav;obtain⟨q3,q4,rfl,_⟩:=hnv;obtain⟨q5,q6,rfl,_⟩:=hcv;obtain⟨q7,q8,rfl,_⟩:=hkv;generalize hA1:((l.map Ak).take j).sum=A1 at hsucc hle ⊢;have HS:=hid hsucc;have hsb:A1+s<=1000000000:=omz
   clear hs hx hn hna hA1 hsucc hle2 hle hsum
   go_wp2_with (go_at_call 78;refine(HI _ blB).mono ?_;rintro e w2 ⟨rfl,hb2⟩)
   refine⟨⟨j+1,omz,by go_num,?_,blB⟩,by simp[intOf];omega⟩;rw[HS.out];rfl
  ·go_wp2
   go_ret;refine⟨C9 ?_,hbw⟩;rw[HZ.out,A43 (by simp;omega)]
end Go.Proofs.YtbfljjcnbbmoaaaGreatDoor
