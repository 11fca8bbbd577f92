import Derived.Test.YtnpfcnolmkanfaaGreatDoorGB
import Derived.Lib.SmallJoins
import Derived.Deep.RegionLaw
import Derived.Deep.DeepCutAuto
import Derived.ProofKit
import Derived.OpenShut
import Derived.OpenVars
import Derived.LaidMore
import Derived.Lay
import Derived.Deep.DeepHandedRow
import Derived.RangeFuncNested
import Derived.RangeFuncBound
import Derived.RangeFuncCalls
import Derived.RangeFuncLeaves
import Derived.Shelf.Abstract
namespace Go.Proofs.YtnpfcnolmkanfaaGreatDoor
open Tryz
open Go.RowKit Go.Sort Go.BigFrame
variable {B base l lo m n n₀ o p size:Nat}{F:Fence}{P:Program}{W W' X Y Z w':World}{e:TypeId}{v:Value}{xs:List Value}
theorem Aif:(prog.info? 92).map (λi=>(i.zero,i.size,i.bytes))=some (some (.agg #[.int .i64 0, .int .i64 0, .int .i64 0]),3,24):=krz
def Vg (d:Stil.Dev):List Value:=[.int .i64 d.kind, .int .i64 d.n, .int .i64 d.p]
def Be (a:List Stil.Dev):List Value:=a.flatMap Vg
theorem Jr (a:List Stil.Dev):(Be a).length=a.length*3:=by
 induction a with
 | nil=>rfl
 | cons d r b=>simp[Be,Vg] at b ⊢;omega
theorem Af7 (a:List Stil.Dev)(d:Stil.Dev):Be (a++[d])=Be a++Vg d:=by simp[Be]
theorem Lm (a:List Stil.Dev):∀(i:Nat) (h:i<a.length),(Be a)[i*3]?=some (.int .i64 a[i].kind)/\(Be a)[i*3+1]?=some (.int .i64 a[i].n)/\(Be a)[i*3+2]?=some (.int .i64 a[i].p):=by
 induction a with
 | nil=>intro i h;simp at h
 | cons d r f=>
  intro i h;have e:Be (d::r)=.int .i64 d.kind::.int .i64 d.n::.int .i64 d.p::Be r:=rfl;cases i with
  | zero=>rw[e];simp
  | succ i=>
   have b:i<r.length:=by simpa using h
   rw[e];have:=f i b
   have c:(i+1)*3=i*3+3:=omz
   rw[c];simpa using this
theorem add_plain (g j:Nat):(⟨g,0,none⟩:Addr).add j=⟨g,j,none⟩:=by unfold Addr.add;split<;>simp_all
theorem Bo {w:World}(h:w.ownsRow base e size v n xs)(f:0<n):∃g cap,v=.slice (some ⟨g,0,none⟩) n cap/\base<=g/\g<w.heap.size/\n<=cap/\∀j u,xs[j]?=some u->w.cell? ⟨g,j,none⟩=some u:=by
 have c:=h.2;rcases c with⟨_,d⟩ | ⟨g,cap,cur,hv,a,_,b,_⟩
 ·omega
 ·refine⟨g,cap,hv,a,(h.lt g yEc).2,b,λj u hu=>?_⟩
  have:=h.cells (g:=g) yEc j u hu
  rwa [add_plain] at this
theorem zm0 {p:Prop}(h:p:=by
 have hn:=List.length_eq_zero_iff.1 hd
 subst hn;rcases h.2 with⟨h0,_⟩ | ⟨g,cap,cur,hv,_⟩
 ·exact⟨none,0,h0,λi hi=>by simp at hi⟩
 ·exact⟨_,cap,hv,λi hi=>by simp at hi⟩):p:=h
theorem Dh.of_owns {w:World}{a:List Stil.Dev}(h:w.ownsRow base 92 3 v a.length (Be a)):Dh w v a:=by
 by_cases hd:a.length=0
 ·exact zm0
 ·obtain⟨g,cap,hv,_,d,_,b⟩:=Bo h omz
  refine⟨_,cap,hv,λi hi=>⟨g,0,rfl,d,?_⟩⟩;obtain⟨f,c,j⟩:=Lm a i hi;unfold Jc;rw[A6b];exact⟨b _ _ f,b _ _ c,b _ _ j⟩
theorem ownsRow_below {w:World}(h:w.ownsRow base e size v n xs)(c:Below w.heap.size w w'):w'.ownsRow base e size v n xs:=by
 refine⟨h.1,?_⟩;rcases h.2 with f | ⟨g,cap,cur,hv,b,a,d⟩
 ·exact Or.inl f
 ·have:=(h.lt g yEc).2
  exact Or.inr ⟨g,cap,cur,hv,b,by rw[c.block g this];exact a,d⟩
theorem H7 (W:World)(cs:List Value)(t:TypeId)(b:Nat)(a:b=W.heap.size):∀j u,cs[j]?=some u->(W.alloc (.cells cs.toArray t)).cell? ((⟨b,0,none⟩:Addr).add j)=some u:=by
 subst a;intro j u c;rw[add_plain,World.cell?_alloc_at _ _ _ _ rfl];simpa using c
theorem Ado {ops:Array Oper}{o:Oper}{a:Act}{w:World}{K:Act->World->Prop}{Q:Exit->Act->World->Prop}{E:Prop}
  (hg:o.guard=none) (s x:Operand) (t:TypeId) (I:o.op=.call {callee:=.builtin .append,args:=#[s,x],argTypes:=#[t,t]})
  (base:Nat) (e:TypeId) (i:TypeInfo) (z:Value) (size bytes:Nat) (H:P.underlying t=some (.slice e)) (hi:P.info? e=some i) (G:i.zero=some z)
  (D:i.size=size) (d:i.bytes=bytes) (J:z.cells.size=size) (g:0<size)
  (v:Value) (n:Nat) (xs:List Value) (r:a.eval s=v) (f:w.ownsRow base e size v n xs)
  (ad:Addr) (m c:Nat) (news:List Value) (hx:a.eval x=.slice (some ad) m c) (hl:news.length=m*size) (C:∀j u,news[j]?=some u->w.cell? (ad.add j)=some u) (h1:∀u∈news,u.oneCell'=true)
  (A:n+m<=maxLen) (k:(n+m)*bytes<=140737488355328) (q:base<=w.heap.size)
  (h:∀b w',w'.ownsRow base e size b (n+m) (xs++news)->w.grownBy w' v.ownBlock->K (a.put o.dst b) w'):
  if Region.wanted o (yielded ops a.tmps)=true then Oper.wp P o a w K Q else E:=by
 have y:Region.wanted o (yielded ops a.tmps)=true:=by simp[Region.wanted,hg]
 rw[if_pos y];exact wp_append_own w s x t I base e i z size bytes H hi G D d J g v n xs r f ad m c news hx hl C h1 A k q λb w' M L _=>h b w' M L
theorem Vf (a:List Stil.Dev):∀u∈Be a,u.oneCell'=true:=by
 intro u hu;simp only[Be,List.mem_flatMap,Vg] at hu;obtain⟨d,_,hd⟩:=hu;simp at hd;rcases hd with rfl | rfl | rfl<;>rfl
theorem A3f (d e:Stil.Dev):(d=e)↔(d.kind=e.kind/\d.n=e.n/\d.p=e.p):=by
 cases d;cases e;simp
open Go.ChangeShapes Go.WideShapes Go.ChangeAt
theorem A50:prog.cellsOf 3=1:=krz
theorem lt_of_cell {b:Nat}(h:W.cell? ⟨b,o,none⟩=some v):b<W.heap.size:=by
 unfold World.cell? at h;cases a:W.heap[b]? with
 | none=>simp[a] at h
 | some x=>exact(Array.getElem?_eq_some_iff.1 a).1
open Stil
def Sj (w:World):Nat->Nat->Stil.Net->Prop
 | b,o,⟨k,e,kids⟩=>w.cell? ⟨b,o,none⟩=some (.int .i64 k)/\w.cell? ⟨b,o+1,none⟩=some (.int .i64 e.op)/\
   (∃d,w.cell? ⟨b,o+2,none⟩=some d/\Dh w d e.args)/\
   ∃a cap,w.cell? ⟨b,o+3,none⟩=some (.slice a kids.length cap)/\∀i (h:i<kids.length),∃c f,a=some ⟨c,f,none⟩/\c<w.heap.size/\
    (have:=A8f (A59 h);Sj w c (f+i*4) kids[i])
theorem Ade (w:World)(b o:Nat)(k:Int)(e:Stil.Elem)(kids:List Stil.Net):Sj w b o ⟨k,e,kids⟩=(w.cell? ⟨b,o,none⟩=some (.int .i64 k)/\w.cell? ⟨b,o+1,none⟩=some (.int .i64 e.op)/\
   (∃d,w.cell? ⟨b,o+2,none⟩=some d/\Dh w d e.args)/\
   ∃a cap,w.cell? ⟨b,o+3,none⟩=some (.slice a kids.length cap)/\∀i (h:i<kids.length),∃c f,a=some ⟨c,f,none⟩/\c<w.heap.size/\Sj w c (f+i*4) kids[i]):=by rw[Sj]
def E8 (w:World)(v:Value)(ns:List Stil.Net):Prop:=∃a cap,v=.slice a ns.length cap/\∀i (h:i<ns.length),∃b o,a=some ⟨b,o,none⟩/\b<w.heap.size/\Sj w b (o+i*4) ns[i]
theorem Ayw (w:World)(b o:Nat)(k:Int)(e:Stil.Elem)(kids:List Stil.Net):Sj w b o ⟨k,e,kids⟩↔(w.cell? ⟨b,o,none⟩=some (.int .i64 k)/\w.cell? ⟨b,o+1,none⟩=some (.int .i64 e.op)/\
   (∃j,w.cell? ⟨b,o+2,none⟩=some j/\Dh w j e.args)/\∃i,w.cell? ⟨b,o+3,none⟩=some i/\E8 w i kids):=by
 rw[Ade];constructor
 ·rintro⟨c,h,g,a,cap,d,f⟩;exact⟨c,h,g,_,d,a,cap,rfl,f⟩
 ·rintro⟨c,h,g,_,d,a,cap,rfl,f⟩;exact⟨c,h,g,a,cap,d,f⟩
theorem zB0 {p:Prop}(h:p:=by
 obtain⟨b',o',ha,hl',hn⟩:=h6 i hi
 exact⟨b',o',ha,A51 hl' hb.size,ih _ (A59 hi) b' _ hn hl'⟩):p:=h
theorem Sj.below {w:World}(hb:Below w.heap.size w w'):∀(n:Stil.Net) (b o:Nat),Sj w b o n->b<w.heap.size->Sj w' b o n:=by
 intro n;induction n using Gf with
 | h k e kids ih=>
  intro b o h c;rw[Ade] at h ⊢;obtain⟨d,r,⟨j,q,g⟩,a,cap,f,h6⟩:=h;refine⟨?_,?_,⟨j,?_,g.below hb⟩,a,cap,?_,λi hi=>?_⟩
  ·rw[hb.cell (p:=⟨b,o,none⟩) c];exact d
  ·rw[hb.cell (p:=⟨b,o+1,none⟩) c];exact r
  ·rw[hb.cell (p:=⟨b,o+2,none⟩) c];exact q
  ·rw[hb.cell (p:=⟨b,o+3,none⟩) c];exact f
  ·exact zB0
theorem E8.below {w:World}{ns:List Stil.Net}(h:E8 w v ns)(c:Below w.heap.size w w'):E8 w' v ns:=by
 obtain⟨a,cap,f,j⟩:=h;refine⟨a,cap,f,λi hi=>?_⟩;obtain⟨b,o,g,d,k⟩:=j i hi;exact⟨b,o,g,A51 d c.size,Sj.below c _ _ _ k d⟩
def Ame (w:World)(b o:Nat)(e:Stil.Elem):Prop:=w.cell? ⟨b,o,none⟩=some (.int .i64 e.op)/\∃a,w.cell? ⟨b,o+1,none⟩=some a/\Dh w a e.args
def Hz (w:World)(v:Value)(es:List Stil.Elem):Prop:=∃a cap,v=.slice a es.length cap/\∀i (h:i<es.length),∃b o,a=some ⟨b,o,none⟩/\b<w.heap.size/\Ame w b (o+i*2) es[i]
theorem Ame.below {w:World}{b:Nat}{e:Stil.Elem}(h:Ame w b o e)(a:Below w.heap.size w w')(c:b<w.heap.size):Ame w' b o e:=by
 obtain⟨d,f,i,g⟩:=h;exact⟨by rw[a.cell (p:=⟨b,o,none⟩) c];exact d,f,by rw[a.cell (p:=⟨b,o+1,none⟩) c];exact i,g.below a⟩
theorem Hz.below {w:World}{es:List Stil.Elem}(h:Hz w v es)(c:Below w.heap.size w w'):Hz w' v es:=by
 obtain⟨a,cap,f,j⟩:=h;refine⟨a,cap,f,λi hi=>?_⟩;obtain⟨b,o,g,d,k⟩:=j i hi;exact⟨b,o,g,A51 d c.size,k.below c d⟩
def Uz (w:World):Nat->Nat->Stil.Arm->Prop
 | b,o,⟨n,g,kids⟩=>Sj w b o n/\(∃d,w.cell? ⟨b,o+4,none⟩=some d/\Hz w d g)/\
   ∃a cap,w.cell? ⟨b,o+5,none⟩=some (.slice a kids.length cap)/\∀i (h:i<kids.length),∃c f,a=some ⟨c,f,none⟩/\c<w.heap.size/\
    (have:=A8f (A59 h);Uz w c (f+i*6) kids[i])
theorem Adg (w:World)(b o:Nat)(n:Stil.Net)(f:List Stil.Elem)(kids:List Stil.Arm):Uz w b o ⟨n,f,kids⟩=(Sj w b o n/\(∃d,w.cell? ⟨b,o+4,none⟩=some d/\Hz w d f)/\
   ∃a cap,w.cell? ⟨b,o+5,none⟩=some (.slice a kids.length cap)/\∀i (h:i<kids.length),∃c g,a=some ⟨c,g,none⟩/\c<w.heap.size/\Uz w c (g+i*6) kids[i]):=by rw[Uz]
def Ea (w:World)(v:Value)(l:List Stil.Arm):Prop:=∃a cap,v=.slice a l.length cap/\∀i (h:i<l.length),∃b o,a=some ⟨b,o,none⟩/\b<w.heap.size/\Uz w b (o+i*6) l[i]
theorem Uz.below {w:World}(hb:Below w.heap.size w w'):∀(n:Stil.Arm) (b o:Nat),Uz w b o n->b<w.heap.size->Uz w' b o n:=by
 intro n;induction n using Fz with
 | h n q kids ih=>
  intro b o h c;rw[Adg] at h ⊢;obtain⟨d,⟨g,k,j⟩,a,cap,f,h6⟩:=h;refine⟨Sj.below hb _ _ _ d c,⟨g,?_,j.below hb⟩,a,cap,?_,λi hi=>?_⟩
  ·rw[hb.cell (p:=⟨b,o+4,none⟩) c];exact k
  ·rw[hb.cell (p:=⟨b,o+5,none⟩) c];exact f
  ·exact zB0
theorem Ea.below {w:World}{ns:List Stil.Arm}(h:Ea w v ns)(c:Below w.heap.size w w'):Ea w' v ns:=by
 obtain⟨a,cap,f,j⟩:=h;refine⟨a,cap,f,λi hi=>?_⟩;obtain⟨b,o,g,d,k⟩:=j i hi;exact⟨b,o,g,A51 d c.size,Uz.below c _ _ _ k d⟩
theorem Sj.open {w:World}{b:Nat}{n:Stil.Net}(h:Sj w b o n):w.cell? ⟨b,o,none⟩=some (.int .i64 n.kind)/\w.cell? ⟨b,o+1,none⟩=some (.int .i64 n.one.op)/\
   ∃c a,w.cell? ⟨b,o+2,none⟩=some c/\w.cell? ⟨b,o+3,none⟩=some a/\Dh w c n.one.args/\E8 w a n.kids:=by
 obtain⟨k,e,kids⟩:=n;obtain⟨d,q,⟨c,j,f⟩,a,g,i⟩:=(Ayw _ _ _ _ _ _).1 h;exact⟨d,q,c,a,j,g,f,i⟩
theorem Uz.open {w:World}{b:Nat}{n:Stil.Arm}(h:Uz w b o n):Sj w b o n.net/\∃c d,w.cell? ⟨b,o+4,none⟩=some c/\w.cell? ⟨b,o+5,none⟩=some d/\Hz w c n.coils/\Ea w d n.kids:=by
 obtain⟨n,q,kids⟩:=n;rw[Adg] at h;obtain⟨f,⟨c,k,g⟩,a,cap,i,j⟩:=h;exact⟨f,c,_,k,i,g,a,cap,rfl,j⟩
theorem Bq {b c:Nat}(h:c≠b):(W.setCell ⟨b,o,none⟩ v).cell? ⟨c,p,none⟩=W.cell? ⟨c,p,none⟩:=by
 simp[go_sem]
theorem Cj {b:Nat}(h:p≠o):(W.setCell ⟨b,o,none⟩ v).cell? ⟨b,p,none⟩=W.cell? ⟨b,p,none⟩:=by
 simp[go_sem]
theorem Gh {b:Nat}{u:Value}(h:W.cell? ⟨b,o,none⟩=some u):(W.setCell ⟨b,o,none⟩ v).cell? ⟨b,o,none⟩=some v:=by
 simp[go_sem,h]
theorem J9 (W:World)(p:Addr)(v:Value):W.heap.size<=(W.setCell p v).heap.size:=((Below.refl 0 W).setCell (A7l _) v).size
def I8 (lo:Nat)(w:World)(v:Value)(c:List Stil.Dev):Prop:=∃a cap,v=.slice a c.length cap/\∀i (h:i<c.length),∃b o,a=some ⟨b,o,none⟩/\lo<=b/\b<w.heap.size/\Jc w b (o+i*3) c[i]
theorem I8.at {w:World}{c:List Stil.Dev}(h:I8 lo w v c):Dh w v c:=by
 obtain⟨a,cap,d,j⟩:=h;refine⟨a,cap,d,λi hi=>?_⟩;obtain⟨b,o,g,k,f,hd⟩:=j i hi;exact⟨b,o,g,f,hd⟩
theorem I8.of_owns {w:World}{a:List Stil.Dev}(h:w.ownsRow base 92 3 v a.length (Be a)):I8 base w v a:=by
 by_cases hd:a.length=0
 ·exact zm0
 ·obtain⟨g,cap,hv,d,f,_,b⟩:=Bo h omz
  refine⟨_,cap,hv,λi hi=>⟨g,0,rfl,d,f,?_⟩⟩;obtain⟨j,c,k⟩:=Lm a i hi;unfold Jc;rw[A6b];exact⟨b _ _ j,b _ _ c,b _ _ k⟩
def Ph (lo:Nat)(w:World):Nat->Nat->Stil.Net->Prop
 | b,o,⟨k,e,kids⟩=>w.cell? ⟨b,o,none⟩=some (.int .i64 k)/\w.cell? ⟨b,o+1,none⟩=some (.int .i64 e.op)/\
   (∃d,w.cell? ⟨b,o+2,none⟩=some d/\I8 lo w d e.args)/\
   ∃a cap,w.cell? ⟨b,o+3,none⟩=some (.slice a kids.length cap)/\∀i (h:i<kids.length),∃c f,a=some ⟨c,f,none⟩/\lo<=c/\c<w.heap.size/\
    (have:=A8f (A59 h);Ph lo w c (f+i*4) kids[i])
theorem Ahv (lo:Nat)(w:World)(b o:Nat)(k:Int)(e:Stil.Elem)(kids:List Stil.Net):Ph lo w b o ⟨k,e,kids⟩=(w.cell? ⟨b,o,none⟩=some (.int .i64 k)/\w.cell? ⟨b,o+1,none⟩=some (.int .i64 e.op)/\
   (∃d,w.cell? ⟨b,o+2,none⟩=some d/\I8 lo w d e.args)/\
   ∃a cap,w.cell? ⟨b,o+3,none⟩=some (.slice a kids.length cap)/\∀i (h:i<kids.length),∃c f,a=some ⟨c,f,none⟩/\lo<=c/\c<w.heap.size/\Ph lo w c (f+i*4) kids[i]):=by rw[Ph]
def Tn (lo:Nat)(w:World)(v:Value)(ns:List Stil.Net):Prop:=∃a cap,v=.slice a ns.length cap/\∀i (h:i<ns.length),∃b o,a=some ⟨b,o,none⟩/\lo<=b/\b<w.heap.size/\Ph lo w b (o+i*4) ns[i]
theorem Afh (lo:Nat)(w:World)(b o:Nat)(n:Stil.Net):Ph lo w b o n↔(w.cell? ⟨b,o,none⟩=some (.int .i64 n.kind)/\w.cell? ⟨b,o+1,none⟩=some (.int .i64 n.one.op)/\
   (∃j,w.cell? ⟨b,o+2,none⟩=some j/\I8 lo w j n.one.args)/\∃i,w.cell? ⟨b,o+3,none⟩=some i/\Tn lo w i n.kids):=by
 obtain⟨k,e,kids⟩:=n;rw[Ahv];constructor
 ·rintro⟨c,h,g,a,cap,f,d⟩;exact⟨c,h,g,_,f,a,cap,rfl,d⟩
 ·rintro⟨c,h,g,_,f,a,cap,rfl,d⟩;exact⟨c,h,g,a,cap,f,d⟩
theorem Ph.at {w:World}:∀(n:Stil.Net) (b o:Nat),Ph lo w b o n->Sj w b o n:=by
 intro n;induction n using Gf with
 | h k e kids g=>
  intro b o h;rw[Ahv] at h;rw[Ade];obtain⟨f,z,⟨u,x,t⟩,a,cap,j,q⟩:=h;refine⟨f,z,⟨u,x,t.at⟩,a,cap,j,λi hi=>?_⟩;obtain⟨c,y,d,A,s,r⟩:=q i hi;exact⟨c,y,d,s,g _ (A59 hi) c _ r⟩
theorem Tn.at {w:World}{ns:List Stil.Net}(h:Tn lo w v ns):E8 w v ns:=by
 obtain⟨a,cap,c,g⟩:=h;refine⟨a,cap,c,λi hi=>?_⟩;obtain⟨b,o,f,j,d,hd⟩:=g i hi;exact⟨b,o,f,d,Ph.at _ _ _ hd⟩
def A1f (lo:Nat)(w:World)(b o:Nat)(e:Stil.Elem):Prop:=w.cell? ⟨b,o,none⟩=some (.int .i64 e.op)/\∃a,w.cell? ⟨b,o+1,none⟩=some a/\I8 lo w a e.args
def Qk (lo:Nat)(w:World)(v:Value)(es:List Stil.Elem):Prop:=∃a cap,v=.slice a es.length cap/\∀i (h:i<es.length),∃b o,a=some ⟨b,o,none⟩/\lo<=b/\b<w.heap.size/\A1f lo w b (o+i*2) es[i]
theorem Qk.at {w:World}{es:List Stil.Elem}(h:Qk lo w v es):Hz w v es:=by
 obtain⟨a,cap,c,r⟩:=h;refine⟨a,cap,c,λi hi=>?_⟩;obtain⟨b,o,q,s,d,f,j,g,k⟩:=r i hi;exact⟨b,o,q,d,f,j,g,k.at⟩
def Vu (lo:Nat)(w:World):Nat->Nat->Stil.Arm->Prop
 | b,o,⟨n,g,kids⟩=>Ph lo w b o n/\(∃d,w.cell? ⟨b,o+4,none⟩=some d/\Qk lo w d g)/\
   ∃a cap,w.cell? ⟨b,o+5,none⟩=some (.slice a kids.length cap)/\∀i (h:i<kids.length),∃c f,a=some ⟨c,f,none⟩/\lo<=c/\c<w.heap.size/\
    (have:=A8f (A59 h);Vu lo w c (f+i*6) kids[i])
theorem Ahw (lo:Nat)(w:World)(b o:Nat)(n:Stil.Net)(f:List Stil.Elem)(kids:List Stil.Arm):Vu lo w b o ⟨n,f,kids⟩=(Ph lo w b o n/\(∃d,w.cell? ⟨b,o+4,none⟩=some d/\Qk lo w d f)/\
   ∃a cap,w.cell? ⟨b,o+5,none⟩=some (.slice a kids.length cap)/\∀i (h:i<kids.length),∃c g,a=some ⟨c,g,none⟩/\lo<=c/\c<w.heap.size/\Vu lo w c (g+i*6) kids[i]):=by rw[Vu]
def Aa7 (lo:Nat)(w:World)(v:Value)(l:List Stil.Arm):Prop:=∃a cap,v=.slice a l.length cap/\∀i (h:i<l.length),∃b o,a=some ⟨b,o,none⟩/\lo<=b/\b<w.heap.size/\Vu lo w b (o+i*6) l[i]
theorem Ao4 (lo:Nat)(w:World)(b o:Nat)(n:Stil.Arm):Vu lo w b o n↔(Ph lo w b o n.net/\(∃h,w.cell? ⟨b,o+4,none⟩=some h/\Qk lo w h n.coils)/\∃i,w.cell? ⟨b,o+5,none⟩=some i/\Aa7 lo w i n.kids):=by
 obtain⟨k,e,kids⟩:=n;rw[Ahw];constructor
 ·rintro⟨c,g,a,cap,d,f⟩;exact⟨c,g,_,d,a,cap,rfl,f⟩
 ·rintro⟨c,g,_,d,a,cap,rfl,f⟩;exact⟨c,g,a,cap,d,f⟩
theorem Vu.at {w:World}:∀(n:Stil.Arm) (b o:Nat),Vu lo w b o n->Uz w b o n:=by
 intro n;induction n using Fz with
 | h n y kids g=>
  intro b o h;rw[Ahw] at h;rw[Adg];obtain⟨f,⟨r,u,t⟩,a,cap,j,k⟩:=h;refine⟨Ph.at _ _ _ f,⟨r,u,t.at⟩,a,cap,j,λi hi=>?_⟩;obtain⟨c,x,d,z,s,q⟩:=k i hi;exact⟨c,x,d,s,g _ (A59 hi) c _ q⟩
theorem Aa7.at {w:World}{ns:List Stil.Arm}(h:Aa7 lo w v ns):Ea w v ns:=by
 obtain⟨a,cap,c,g⟩:=h;refine⟨a,cap,c,λi hi=>?_⟩;obtain⟨b,o,f,j,d,hd⟩:=g i hi;exact⟨b,o,f,d,Vu.at _ _ _ hd⟩
structure Jt (C:Nat->Prop)(W W':World):Prop where
 size:W.heap.size<=W'.heap.size
 same:∀(k:Nat) (o:Obj),¬C k->W.heap[k]?=some o->o.isCells=true->W'.heap[k]?=some o
theorem Jt.refl (C:Nat->Prop)(W:World):Jt C W W:=⟨A57 _,λ_ _ _ h _=>h⟩
theorem Jt.trans {C:Nat->Prop}(h:Jt C X Y)(k:Jt C Y Z):Jt C X Z:=⟨A6e h.size k.size,λi o b hi a=>k.same i o b (h.same i o b hi a) a⟩
theorem Jt.of_below {C:Nat->Prop}(h:Below W.heap.size W W'):Jt C W W':=
 ⟨h.size,λk _ _ a _=>(h.block k (Array.getElem?_eq_some_iff.1 a).1).trans a⟩
theorem Jt.drew {C:Nat->Prop}(h:Jt C W W'):Jt C W W'.drew:=⟨h.size,h.same⟩
theorem Jt.call {C:Nat->Prop}(h:Jt C W X)(a:Below X.heap.size X Y):Jt C W Y:=h.trans (.of_below a)
theorem Jt.set {C:Nat->Prop}{b:Nat}(h:Jt C W W')(c:C b)(v:Value):Jt C W (W'.setCell ⟨b,o,none⟩ v):=
 h.trans ⟨by simp[World.setCell],λk _ d a _=>(Below.heap_setCell W' ⟨b,o,none⟩ v k (λe=>d (by rw[e];exact c))).trans a⟩
theorem Jt.putObj {C:Nat->Prop}(W:World){o:Obj}(d:Obj)(h:W.heap[l]?=some o)(c:o.isCells=false):Jt C W (W.putObj l d):=
 ⟨by simp[World.putObj],λk p _ a b=>by
  by_cases e:k=l
  ·subst e
   rw[h] at a;cases a;rw[c] at b;cases b
  ·rw[World.putObj_heap_other e];exact a⟩
theorem Jt.cell {C:Nat->Prop}(h:Jt C W W'){b:Nat}(f:¬C b)(c:W.cell? ⟨b,o,none⟩=some v):W'.cell? ⟨b,o,none⟩=some v:=by
 obtain⟨p,a,d⟩:=cells_of_cell c;exact(World.cell?_of_block (w:=W) ((h.same b p f a d).trans a.symm)).trans c
theorem Bi {b:Nat}(h:W.cell? ⟨b,o,none⟩=some v):b<W.heap.size:=by
 obtain⟨p,a,_⟩:=cells_of_cell h;exact(Array.getElem?_eq_some_iff.1 a).1
def Kept (n₀:Nat)(C:Nat->Prop)(W W':World):Prop:=Below n₀ W W'/\Jt C W W'
theorem Kept.t {C:Nat->Prop}(h:Kept n₀ C X Y)(k:Kept n₀ C Y Z):Kept n₀ C X Z:=⟨h.1.trans k.1,h.2.trans k.2⟩
theorem Kept.b {C:Nat->Prop}{w:World}(f:n₀<=w.heap.size)(W:World)(l:Nat)(o a:Obj)(hl:w.heap.size<=l)(h:W.heap[l]?=some o)(c:o.isCells=false)(d:o.isWalk=false):Kept n₀ C W (W.putObj l a):=
 ⟨belowK_b f W l o a hl h c d,Jt.putObj W a h c⟩
theorem Kept.refl (n₀:Nat)(C:Nat->Prop)(W:World):Kept n₀ C W W:=⟨Below.refl _ _,Jt.refl _ _⟩
theorem Kept.of_below {C:Nat->Prop}(a:n₀<=W.heap.size)(h:Below W.heap.size W W'):Kept n₀ C W W':=⟨h.mono a, .of_below h⟩
structure Sl (w:World)(P:Stil.Net->Prop) where
 net:Stil.Net
 av:Value
 kv:Value
 hav:Dh w av net.one.args
 hkv:E8 w kv net.kids
 mem:P net
structure Qv (w:World)(P:Stil.Arm->Prop) where
 arm:Stil.Arm
 av:Value
 nv:Value
 cv:Value
 kv:Value
 hav:Dh w av arm.net.one.args
 hnv:E8 w nv arm.net.kids
 hcv:Hz w cv arm.coils
 hkv:Ea w kv arm.kids
 mem:P arm
def Pq (w:World)(C:Nat->Prop)(W:World)(v:Value)(l:List Stil.Net):Prop:=∃a cap,v=.slice a l.length cap/\∀i (h:i<l.length),∃b o,a=some ⟨b,o,none⟩/\¬C b/\
 ∃d c,W.cell? ⟨b,o+i*4,none⟩=some (.int .i64 l[i].kind)/\W.cell? ⟨b,o+i*4+1,none⟩=some (.int .i64 l[i].one.op)/\W.cell? ⟨b,o+i*4+2,none⟩=some d/\W.cell? ⟨b,o+i*4+3,none⟩=some c/\Dh w d l[i].one.args/\E8 w c l[i].kids
theorem Pq.keep {w:World}{C:Nat->Prop}{l:List Stil.Net}(h:Pq w C W v l)(d:Jt C W W'):Pq w C W' v l:=by
 obtain⟨a,cap,t,s⟩:=h;refine⟨a,cap,t,λi hi=>?_⟩;obtain⟨b,o,q,c,x,f,g,u,r,k,j,y⟩:=s i hi;exact⟨b,o,q,c,x,f,d.cell c g,d.cell c u,d.cell c r,d.cell c k,j,y⟩
theorem Pq.of_at {w:World}{C:Nat->Prop}{l:List Stil.Net}(h:E8 w v l)(d:Below w.heap.size w W)(y:∀k,C k->w.heap.size<=k):Pq w C W v l:=by
 obtain⟨a,cap,q,u⟩:=h;refine⟨a,cap,q,λi hi=>?_⟩;obtain⟨b,o,j,c,x⟩:=u i hi;obtain⟨r,z,A,f,t,g,s,D⟩:=x.open;exact⟨b,o,j,λh=>by have:=y b h;omega,A,f,(d.cell (p:=⟨b,_,none⟩) c).trans r,(d.cell (p:=⟨b,_,none⟩) c).trans z,(d.cell (p:=⟨b,_,none⟩) c).trans t,(d.cell (p:=⟨b,_,none⟩) c).trans g,s,D⟩
def Oq (w:World)(C:Nat->Prop)(W:World)(v:Value)(l:List Stil.Arm):Prop:=∃a cap,v=.slice a l.length cap/\∀i (h:i<l.length),∃b o,a=some ⟨b,o,none⟩/\¬C b/\
 ∃g c d f,W.cell? ⟨b,o+i*6,none⟩=some (.int .i64 l[i].net.kind)/\W.cell? ⟨b,o+i*6+1,none⟩=some (.int .i64 l[i].net.one.op)/\W.cell? ⟨b,o+i*6+2,none⟩=some g/\W.cell? ⟨b,o+i*6+3,none⟩=some c/\
  W.cell? ⟨b,o+i*6+4,none⟩=some d/\W.cell? ⟨b,o+i*6+5,none⟩=some f/\Dh w g l[i].net.one.args/\E8 w c l[i].net.kids/\Hz w d l[i].coils/\Ea w f l[i].kids
theorem Oq.keep {w:World}{C:Nat->Prop}{l:List Stil.Arm}(h:Oq w C W v l)(d:Jt C W W'):Oq w C W' v l:=by
 obtain⟨a,cap,q,x⟩:=h;refine⟨a,cap,q,λi hi=>?_⟩;obtain⟨b,o,k,c,D,y,z,g,s,A,u,j,f,r,t⟩:=x i hi;exact⟨b,o,k,c,D,y,z,g,d.cell c s,d.cell c A,d.cell c u,d.cell c j,d.cell c f,d.cell c r,t⟩
theorem Oq.of_at {w:World}{C:Nat->Prop}{l:List Stil.Arm}(h:Ea w v l)(d:Below w.heap.size w W)(D:∀k,C k->w.heap.size<=k):Oq w C W v l:=by
 obtain⟨a,cap,r,y⟩:=h;refine⟨a,cap,r,λi hi=>?_⟩;obtain⟨b,o,q,c,A⟩:=y i hi;obtain⟨z,G,g,f,s,K,I⟩:=A.open;obtain⟨t,H,J,E,x,j,u,L⟩:=z.open;exact⟨b,o,q,λh=>by have:=D b h;omega,J,E,G,g,(d.cell (p:=⟨b,_,none⟩) c).trans t,(d.cell (p:=⟨b,_,none⟩) c).trans H,(d.cell (p:=⟨b,_,none⟩) c).trans x,(d.cell (p:=⟨b,_,none⟩) c).trans j,(d.cell (p:=⟨b,_,none⟩) c).trans f,(d.cell (p:=⟨b,_,none⟩) c).trans s,u,L,K,I⟩
theorem V4 (h:KeepsFrom B W X)(p:Addr)(v:Value):KeepsFrom B W (X.setCell p v):=h.trans ((KeepsOthers.setCell X p v).from B)
theorem Qr (h:KeepsFrom B W X)(a:Below X.heap.size X Y):KeepsFrom B W Y:=h.trans ⟨a.size,λk _ _ b _=>(a.block k (Array.getElem?_eq_some_iff.1 b).1).trans b⟩
theorem Qq (h:KeepsFrom B W X):KeepsFrom B W X.drew:=h.trans ((KeepsOthers.drew X).from B)
theorem Nh (h:KeepsFrom B W X)(o:Obj):KeepsFrom B W (X.alloc o):=h.trans ((KeepsOthers.alloc X o).from B)
theorem Akv {C:Nat->Prop}{b:Nat}(h:Kept n₀ C W X)(a:n₀<=b)(c:C b)(v:Value):Kept n₀ C W (X.setCell ⟨b,o,none⟩ v):=⟨h.1.setCell (p:=⟨b,o,none⟩) a v,h.2.set c v⟩
theorem Va {C:Nat->Prop}(h:Kept n₀ C W X)(a:n₀<=W.heap.size)(b:Below X.heap.size X Y):Kept n₀ C W Y:=h.t (Kept.of_below (A6e a h.2.size) b)
theorem Aww {C:Nat->Prop}(h:Kept n₀ C W X):Kept n₀ C W X.drew:=⟨h.1.drew,h.2.drew⟩
theorem Ol {b:Nat}(ob:Obj)(h:W.cell? ⟨b,o,none⟩=some v):(W.alloc ob).cell? ⟨b,o,none⟩=some v:=((Aa W ob).cell (p:=⟨b,o,none⟩) (Bi h)).trans h
theorem O6 {b:Nat}(ob:Obj)(h:W.cell? ⟨b,o,none⟩=some v)(a:W.frozen? ⟨b,o,none⟩=false):(W.alloc ob).frozen? ⟨b,o,none⟩=false:=((Aa W ob).frozen (p:=⟨b,o,none⟩) (Bi h)).trans a
theorem share {T G:Prop}(a:T->G)(b:T):G:=a b
theorem room_of_none (hd:F.depth=none)(k:Nat):F.room k:=λd h=>by rw[hd] at h;cases h
theorem RoundIn.anyDepth (hd:F.depth=none){m':Nat}{f:FuncId}{tmps:Array Value}{assign body:Code}{w:World}{R:Ending->World->Prop}
  (h:RoundIn F m P l f tmps assign body w R):RoundIn F m' P l f tmps assign body w R:=⟨h.1,λc a _=>h.2 c a (room_of_none hd _)⟩
theorem YieldAt.anyDepth (hd:F.depth=none)(m':Nat){args:Array Value}{R:Ending->World->Prop}(h:YieldAt F m P l args W R):YieldAt F m' P l args W R:=by
 obtain⟨a,b,assign,body,d,c⟩:=h;exact⟨a,b,assign,body,d,RoundIn.anyDepth hd c⟩
end Go.Proofs.YtnpfcnolmkanfaaGreatDoor
