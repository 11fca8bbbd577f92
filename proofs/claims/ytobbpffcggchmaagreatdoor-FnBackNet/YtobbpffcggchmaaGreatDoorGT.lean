import Derived.Test.YtobbpffcggchmaaGreatDoorGB
import Derived.Lib.SmallJoins
import Derived.Deep.RegionLaw
import Derived.Deep.DeepCutAuto
import Derived.RangeFuncNested
import Derived.RangeFuncBound
import Derived.RangeFuncCalls
import Derived.RangeFuncLeaves
import Derived.Shelf.Abstract
namespace Go.Proofs.YtobbpffcggchmaaGreatDoor
open Tryz
open Go.RowKit Go.Sort Go.BigFrame
variable {B base l lo m n n₀ o p size:Nat}{F:Fence}{P:Program}{W W' X Y Z w':World}{e:TypeId}{v:Value}{xs:List Value}
theorem Ai2:(prog.info? 34).map (λi=>(i.zero,i.size,i.bytes))=some (some (.agg #[.int .i64 0, .int .i64 0, .int .i64 0]),3,24):=krz
def Vq (d:Stil.Dev):List Value:=[.int .i64 d.kind, .int .i64 d.n, .int .i64 d.p]
def Am (a:List Stil.Dev):List Value:=a.flatMap Vq
theorem Jy (a:List Stil.Dev):(Am a).length=a.length*3:=by
 induction a with
 | nil=>rfl
 | cons d r b=>simp[Am,Vq] at b ⊢;omega
theorem Agm (a:List Stil.Dev)(d:Stil.Dev):Am (a++[d])=Am a++Vq d:=by simp[Am]
theorem L6 (a:List Stil.Dev):∀(i:Nat) (h:i<a.length),(Am a)[i*3]?=some (.int .i64 a[i].kind)/\(Am a)[i*3+1]?=some (.int .i64 a[i].n)/\(Am a)[i*3+2]?=some (.int .i64 a[i].p):=by
 induction a with
 | nil=>intro i h;simp at h
 | cons d r c=>
  intro i h;have e:Am (d::r)=.int .i64 d.kind::.int .i64 d.n::.int .i64 d.p::Am r:=rfl;cases i with
  | zero=>rw[e];simp
  | succ i=>
   have b:i<r.length:=by simpa using h
   rw[e];have:=c i b
   have f:(i+1)*3=i*3+3:=omz
   rw[f];simpa using this
theorem add_plain (g j:Nat):(⟨g,0,none⟩:Addr).add j=⟨g,j,none⟩:=by unfold Addr.add;split<;>simp_all
theorem Cf {w:World}(h:w.ownsRow base e size v n xs)(d:0<n):∃g cap,v=.slice (some ⟨g,0,none⟩) n cap/\base<=g/\g<w.heap.size/\n<=cap/\∀j u,xs[j]?=some u->w.cell? ⟨g,j,none⟩=some u:=by
 have b:=h.2;rcases b with⟨_,f⟩ | ⟨g,cap,cur,hv,a,_,c,_⟩
 ·omega
 ·refine⟨g,cap,hv,a,(h.lt g yDg).2,c,λj u hu=>?_⟩
  have:=h.cells (g:=g) yDg j u hu
  rwa [add_plain] at this
theorem zo0 {p:Prop}(h:p:=by
 have hn:=List.length_eq_zero_iff.1 hd
 subst hn;rcases h.2 with⟨h0,_⟩ | ⟨g,cap,cur,hv,_⟩
 ·exact⟨none,0,h0,λi hi=>by simp at hi⟩
 ·exact⟨_,cap,hv,λi hi=>by simp at hi⟩):p:=h
theorem A7.of_owns {w:World}{a:List Stil.Dev}(h:w.ownsRow base 34 3 v a.length (Am a)):A7 w v a:=by
 by_cases hd:a.length=0
 ·exact zo0
 ·obtain⟨g,cap,hv,_,c,_,b⟩:=Cf h omz
  refine⟨_,cap,hv,λi hi=>⟨g,0,rfl,c,?_⟩⟩;obtain⟨f,j,d⟩:=L6 a i hi;unfold Io;rw[A9c];exact⟨b _ _ f,b _ _ j,b _ _ d⟩
theorem ownsRow_below {w:World}(h:w.ownsRow base e size v n xs)(c:Below w.heap.size w w'):w'.ownsRow base e size v n xs:=by
 refine⟨h.1,?_⟩;rcases h.2 with f | ⟨g,cap,cur,hv,a,d,b⟩
 ·exact Or.inl f
 ·have:=(h.lt g yDg).2
  exact Or.inr ⟨g,cap,cur,hv,a,by rw[c.block g this];exact d,b⟩
theorem Qo (W:World)(cs:List Value)(t:TypeId)(b:Nat)(a:b=W.heap.size):∀j u,cs[j]?=some u->(W.alloc (.cells cs.toArray t)).cell? ((⟨b,0,none⟩:Addr).add j)=some u:=by
 subst a;intro j u c;rw[add_plain,World.cell?_alloc_at _ _ _ _ rfl];simpa using c
theorem Adw {ops:Array Oper}{o:Oper}{a:Act}{w:World}{K:Act->World->Prop}{Q:Exit->Act->World->Prop}{E:Prop}
  (hg:o.guard=none) (s x:Operand) (t:TypeId) (r:o.op=.call {callee:=.builtin .append,args:=#[s,x],argTypes:=#[t,t]})
  (base:Nat) (e:TypeId) (i:TypeInfo) (z:Value) (size bytes:Nat) (f:P.underlying t=some (.slice e)) (hi:P.info? e=some i) (H:i.zero=some z)
  (C:i.size=size) (q:i.bytes=bytes) (h:z.cells.size=size) (k:0<size)
  (v:Value) (n:Nat) (xs:List Value) (I:a.eval s=v) (d:w.ownsRow base e size v n xs)
  (ad:Addr) (m c:Nat) (news:List Value) (hx:a.eval x=.slice (some ad) m c) (hl:news.length=m*size) (G:∀j u,news[j]?=some u->w.cell? (ad.add j)=some u) (h1:∀u∈news,u.oneCell'=true)
  (g:n+m<=maxLen) (J:(n+m)*bytes<=140737488355328) (D:base<=w.heap.size)
  (L:∀b w',w'.ownsRow base e size b (n+m) (xs++news)->w.grownBy w' v.ownBlock->K (a.put o.dst b) w'):
  if Region.wanted o (yielded ops a.tmps)=true then Oper.wp P o a w K Q else E:=by
 have A:Region.wanted o (yielded ops a.tmps)=true:=by simp[Region.wanted,hg]
 rw[if_pos A];exact wp_append_own w s x t r base e i z size bytes f hi H C q h k v n xs I d ad m c news hx hl G h1 g J D λb w' y M _=>L b w' y M
theorem Vp (a:List Stil.Dev):∀u∈Am a,u.oneCell'=true:=by
 intro u hu;simp only[Am,List.mem_flatMap,Vq] at hu;obtain⟨d,_,hd⟩:=hu;simp at hd;rcases hd with rfl | rfl | rfl<;>rfl
theorem Azu (d e:Stil.Dev):(d=e)↔(d.kind=e.kind/\d.n=e.n/\d.p=e.p):=by
 cases d;cases e;simp
open Stil
def Oz (w:World):Nat->Nat->Stil.Net->Prop
 | b,o,⟨k,e,kids⟩=>w.cell? ⟨b,o,none⟩=some (.int .i64 k)/\w.cell? ⟨b,o+1,none⟩=some (.int .i64 e.op)/\
   (∃d,w.cell? ⟨b,o+2,none⟩=some d/\A7 w d e.args)/\
   ∃a cap,w.cell? ⟨b,o+3,none⟩=some (.slice a kids.length cap)/\∀i (h:i<kids.length),∃c f,a=some ⟨c,f,none⟩/\c<w.heap.size/\
    (have:=Bbi (A9a h);Oz w c (f+i*4) kids[i])
theorem Adk (w:World)(b o:Nat)(k:Int)(e:Stil.Elem)(kids:List Stil.Net):Oz w b o ⟨k,e,kids⟩=(w.cell? ⟨b,o,none⟩=some (.int .i64 k)/\w.cell? ⟨b,o+1,none⟩=some (.int .i64 e.op)/\
   (∃d,w.cell? ⟨b,o+2,none⟩=some d/\A7 w d e.args)/\
   ∃a cap,w.cell? ⟨b,o+3,none⟩=some (.slice a kids.length cap)/\∀i (h:i<kids.length),∃c f,a=some ⟨c,f,none⟩/\c<w.heap.size/\Oz w c (f+i*4) kids[i]):=by rw[Oz]
def D8 (w:World)(v:Value)(ns:List Stil.Net):Prop:=∃a cap,v=.slice a ns.length cap/\∀i (h:i<ns.length),∃b o,a=some ⟨b,o,none⟩/\b<w.heap.size/\Oz w b (o+i*4) ns[i]
theorem Ana (w:World)(b o:Nat)(k:Int)(e:Stil.Elem)(kids:List Stil.Net):Oz w b o ⟨k,e,kids⟩↔(w.cell? ⟨b,o,none⟩=some (.int .i64 k)/\w.cell? ⟨b,o+1,none⟩=some (.int .i64 e.op)/\
   (∃i,w.cell? ⟨b,o+2,none⟩=some i/\A7 w i e.args)/\∃j,w.cell? ⟨b,o+3,none⟩=some j/\D8 w j kids):=by
 rw[Adk];constructor
 ·rintro⟨f,h,g,a,cap,c,d⟩;exact⟨f,h,g,_,c,a,cap,rfl,d⟩
 ·rintro⟨f,h,g,_,c,a,cap,rfl,d⟩;exact⟨f,h,g,a,cap,c,d⟩
theorem zA0 {p:Prop}(h:p:=by
 obtain⟨b',o',ha,hl',hn⟩:=h6 i hi
 exact⟨b',o',ha,A82 hl' hb.size,ih _ (A9a hi) b' _ hn hl'⟩):p:=h
theorem Oz.below {w:World}(hb:Below w.heap.size w w'):∀(n:Stil.Net) (b o:Nat),Oz w b o n->b<w.heap.size->Oz w' b o n:=by
 intro n;induction n using Et with
 | h k e kids ih=>
  intro b o h c;rw[Adk] at h ⊢;obtain⟨q,g,⟨d,r,f⟩,a,cap,j,h6⟩:=h;refine⟨?_,?_,⟨d,?_,f.below hb⟩,a,cap,?_,λi hi=>?_⟩
  ·rw[hb.cell (p:=⟨b,o,none⟩) c];exact q
  ·rw[hb.cell (p:=⟨b,o+1,none⟩) c];exact g
  ·rw[hb.cell (p:=⟨b,o+2,none⟩) c];exact r
  ·rw[hb.cell (p:=⟨b,o+3,none⟩) c];exact j
  ·exact zA0
theorem D8.below {w:World}{ns:List Stil.Net}(h:D8 w v ns)(d:Below w.heap.size w w'):D8 w' v ns:=by
 obtain⟨a,cap,g,k⟩:=h;refine⟨a,cap,g,λi hi=>?_⟩;obtain⟨b,o,f,c,j⟩:=k i hi;exact⟨b,o,f,A82 c d.size,Oz.below d _ _ _ j c⟩
def Aco (w:World)(b o:Nat)(e:Stil.Elem):Prop:=w.cell? ⟨b,o,none⟩=some (.int .i64 e.op)/\∃a,w.cell? ⟨b,o+1,none⟩=some a/\A7 w a e.args
def Fh (w:World)(v:Value)(es:List Stil.Elem):Prop:=∃a cap,v=.slice a es.length cap/\∀i (h:i<es.length),∃b o,a=some ⟨b,o,none⟩/\b<w.heap.size/\Aco w b (o+i*2) es[i]
theorem Aco.below {w:World}{b:Nat}{e:Stil.Elem}(h:Aco w b o e)(a:Below w.heap.size w w')(c:b<w.heap.size):Aco w' b o e:=by
 obtain⟨f,d,i,g⟩:=h;exact⟨by rw[a.cell (p:=⟨b,o,none⟩) c];exact f,d,by rw[a.cell (p:=⟨b,o+1,none⟩) c];exact i,g.below a⟩
theorem Fh.below {w:World}{es:List Stil.Elem}(h:Fh w v es)(d:Below w.heap.size w w'):Fh w' v es:=by
 obtain⟨a,cap,g,k⟩:=h;refine⟨a,cap,g,λi hi=>?_⟩;obtain⟨b,o,f,c,j⟩:=k i hi;exact⟨b,o,f,A82 c d.size,j.below d c⟩
def Sl (w:World):Nat->Nat->Stil.Arm->Prop
 | b,o,⟨n,g,kids⟩=>Oz w b o n/\(∃d,w.cell? ⟨b,o+4,none⟩=some d/\Fh w d g)/\
   ∃a cap,w.cell? ⟨b,o+5,none⟩=some (.slice a kids.length cap)/\∀i (h:i<kids.length),∃c f,a=some ⟨c,f,none⟩/\c<w.heap.size/\
    (have:=Bbi (A9a h);Sl w c (f+i*6) kids[i])
theorem Adl (w:World)(b o:Nat)(n:Stil.Net)(d:List Stil.Elem)(kids:List Stil.Arm):Sl w b o ⟨n,d,kids⟩=(Oz w b o n/\(∃f,w.cell? ⟨b,o+4,none⟩=some f/\Fh w f d)/\
   ∃a cap,w.cell? ⟨b,o+5,none⟩=some (.slice a kids.length cap)/\∀i (h:i<kids.length),∃c g,a=some ⟨c,g,none⟩/\c<w.heap.size/\Sl w c (g+i*6) kids[i]):=by rw[Sl]
def Eb (w:World)(v:Value)(l:List Stil.Arm):Prop:=∃a cap,v=.slice a l.length cap/\∀i (h:i<l.length),∃b o,a=some ⟨b,o,none⟩/\b<w.heap.size/\Sl w b (o+i*6) l[i]
theorem Sl.below {w:World}(hb:Below w.heap.size w w'):∀(n:Stil.Arm) (b o:Nat),Sl w b o n->b<w.heap.size->Sl w' b o n:=by
 intro n;induction n using I9 with
 | h n q kids ih=>
  intro b o h c;rw[Adl] at h ⊢;obtain⟨j,⟨d,k,f⟩,a,cap,g,h6⟩:=h;refine⟨Oz.below hb _ _ _ j c,⟨d,?_,f.below hb⟩,a,cap,?_,λi hi=>?_⟩
  ·rw[hb.cell (p:=⟨b,o+4,none⟩) c];exact k
  ·rw[hb.cell (p:=⟨b,o+5,none⟩) c];exact g
  ·exact zA0
theorem Eb.below {w:World}{ns:List Stil.Arm}(h:Eb w v ns)(d:Below w.heap.size w w'):Eb w' v ns:=by
 obtain⟨a,cap,g,k⟩:=h;refine⟨a,cap,g,λi hi=>?_⟩;obtain⟨b,o,f,c,j⟩:=k i hi;exact⟨b,o,f,A82 c d.size,Sl.below d _ _ _ j c⟩
theorem Oz.open {w:World}{b:Nat}{n:Stil.Net}(h:Oz w b o n):w.cell? ⟨b,o,none⟩=some (.int .i64 n.kind)/\w.cell? ⟨b,o+1,none⟩=some (.int .i64 n.one.op)/\
   ∃a c,w.cell? ⟨b,o+2,none⟩=some a/\w.cell? ⟨b,o+3,none⟩=some c/\A7 w a n.one.args/\D8 w c n.kids:=by
 obtain⟨k,e,kids⟩:=n;obtain⟨i,q,⟨a,j,d⟩,c,g,f⟩:=(Ana _ _ _ _ _ _).1 h;exact⟨i,q,a,c,j,g,d,f⟩
theorem Sl.open {w:World}{b:Nat}{n:Stil.Arm}(h:Sl w b o n):Oz w b o n.net/\∃c d,w.cell? ⟨b,o+4,none⟩=some c/\w.cell? ⟨b,o+5,none⟩=some d/\Fh w c n.coils/\Eb w d n.kids:=by
 obtain⟨n,q,kids⟩:=n;rw[Adl] at h;obtain⟨j,⟨c,k,f⟩,a,cap,i,g⟩:=h;exact⟨j,c,_,k,i,f,a,cap,rfl,g⟩
theorem Bz {b c:Nat}(h:c≠b):(W.setCell ⟨b,o,none⟩ v).cell? ⟨c,p,none⟩=W.cell? ⟨c,p,none⟩:=by
 simp[go_sem]
theorem C9 {b:Nat}(h:p≠o):(W.setCell ⟨b,o,none⟩ v).cell? ⟨b,p,none⟩=W.cell? ⟨b,p,none⟩:=by
 simp[go_sem]
theorem Gg {b:Nat}{u:Value}(h:W.cell? ⟨b,o,none⟩=some u):(W.setCell ⟨b,o,none⟩ v).cell? ⟨b,o,none⟩=some v:=by
 simp[go_sem,h]
theorem Kt (W:World)(p:Addr)(v:Value):W.heap.size<=(W.setCell p v).heap.size:=((Below.refl 0 W).setCell (Ban _) v).size
def I5 (lo:Nat)(w:World)(v:Value)(c:List Stil.Dev):Prop:=∃a cap,v=.slice a c.length cap/\∀i (h:i<c.length),∃b o,a=some ⟨b,o,none⟩/\lo<=b/\b<w.heap.size/\Io w b (o+i*3) c[i]
theorem I5.at {w:World}{c:List Stil.Dev}(h:I5 lo w v c):A7 w v c:=by
 obtain⟨a,cap,f,j⟩:=h;refine⟨a,cap,f,λi hi=>?_⟩;obtain⟨b,o,d,k,g,hd⟩:=j i hi;exact⟨b,o,d,g,hd⟩
theorem I5.of_owns {w:World}{a:List Stil.Dev}(h:w.ownsRow base 34 3 v a.length (Am a)):I5 base w v a:=by
 by_cases hd:a.length=0
 ·exact zo0
 ·obtain⟨g,cap,hv,k,c,_,b⟩:=Cf h omz
  refine⟨_,cap,hv,λi hi=>⟨g,0,rfl,k,c,?_⟩⟩;obtain⟨f,j,d⟩:=L6 a i hi;unfold Io;rw[A9c];exact⟨b _ _ f,b _ _ j,b _ _ d⟩
def Pq (lo:Nat)(w:World):Nat->Nat->Stil.Net->Prop
 | b,o,⟨k,e,kids⟩=>w.cell? ⟨b,o,none⟩=some (.int .i64 k)/\w.cell? ⟨b,o+1,none⟩=some (.int .i64 e.op)/\
   (∃d,w.cell? ⟨b,o+2,none⟩=some d/\I5 lo w d e.args)/\
   ∃a cap,w.cell? ⟨b,o+3,none⟩=some (.slice a kids.length cap)/\∀i (h:i<kids.length),∃c f,a=some ⟨c,f,none⟩/\lo<=c/\c<w.heap.size/\
    (have:=Bbi (A9a h);Pq lo w c (f+i*4) kids[i])
theorem Aid (lo:Nat)(w:World)(b o:Nat)(k:Int)(e:Stil.Elem)(kids:List Stil.Net):Pq lo w b o ⟨k,e,kids⟩=(w.cell? ⟨b,o,none⟩=some (.int .i64 k)/\w.cell? ⟨b,o+1,none⟩=some (.int .i64 e.op)/\
   (∃d,w.cell? ⟨b,o+2,none⟩=some d/\I5 lo w d e.args)/\
   ∃a cap,w.cell? ⟨b,o+3,none⟩=some (.slice a kids.length cap)/\∀i (h:i<kids.length),∃c f,a=some ⟨c,f,none⟩/\lo<=c/\c<w.heap.size/\Pq lo w c (f+i*4) kids[i]):=by rw[Pq]
def Vx (lo:Nat)(w:World)(v:Value)(ns:List Stil.Net):Prop:=∃a cap,v=.slice a ns.length cap/\∀i (h:i<ns.length),∃b o,a=some ⟨b,o,none⟩/\lo<=b/\b<w.heap.size/\Pq lo w b (o+i*4) ns[i]
theorem Afp (lo:Nat)(w:World)(b o:Nat)(n:Stil.Net):Pq lo w b o n↔(w.cell? ⟨b,o,none⟩=some (.int .i64 n.kind)/\w.cell? ⟨b,o+1,none⟩=some (.int .i64 n.one.op)/\
   (∃i,w.cell? ⟨b,o+2,none⟩=some i/\I5 lo w i n.one.args)/\∃j,w.cell? ⟨b,o+3,none⟩=some j/\Vx lo w j n.kids):=by
 obtain⟨k,e,kids⟩:=n;rw[Aid];constructor
 ·rintro⟨g,c,h,a,cap,d,f⟩;exact⟨g,c,h,_,d,a,cap,rfl,f⟩
 ·rintro⟨g,c,h,_,d,a,cap,rfl,f⟩;exact⟨g,c,h,a,cap,d,f⟩
theorem Pq.at {w:World}:∀(n:Stil.Net) (b o:Nat),Pq lo w b o n->Oz w b o n:=by
 intro n;induction n using Et with
 | h k e kids u=>
  intro b o h;rw[Aid] at h;rw[Adk];obtain⟨x,s,⟨d,y,j⟩,a,cap,t,q⟩:=h;refine⟨x,s,⟨d,y,j.at⟩,a,cap,t,λi hi=>?_⟩;obtain⟨c,g,f,A,r,z⟩:=q i hi;exact⟨c,g,f,r,u _ (A9a hi) c _ z⟩
theorem Vx.at {w:World}{ns:List Stil.Net}(h:Vx lo w v ns):D8 w v ns:=by
 obtain⟨a,cap,d,g⟩:=h;refine⟨a,cap,d,λi hi=>?_⟩;obtain⟨b,o,c,j,f,hd⟩:=g i hi;exact⟨b,o,c,f,Pq.at _ _ _ hd⟩
def A3r (lo:Nat)(w:World)(b o:Nat)(e:Stil.Elem):Prop:=w.cell? ⟨b,o,none⟩=some (.int .i64 e.op)/\∃a,w.cell? ⟨b,o+1,none⟩=some a/\I5 lo w a e.args
def Qs (lo:Nat)(w:World)(v:Value)(es:List Stil.Elem):Prop:=∃a cap,v=.slice a es.length cap/\∀i (h:i<es.length),∃b o,a=some ⟨b,o,none⟩/\lo<=b/\b<w.heap.size/\A3r lo w b (o+i*2) es[i]
theorem Qs.at {w:World}{es:List Stil.Elem}(h:Qs lo w v es):Fh w v es:=by
 obtain⟨a,cap,f,r⟩:=h;refine⟨a,cap,f,λi hi=>?_⟩;obtain⟨b,o,d,s,g,j,c,q,k⟩:=r i hi;exact⟨b,o,d,g,j,c,q,k.at⟩
def Vz (lo:Nat)(w:World):Nat->Nat->Stil.Arm->Prop
 | b,o,⟨n,g,kids⟩=>Pq lo w b o n/\(∃d,w.cell? ⟨b,o+4,none⟩=some d/\Qs lo w d g)/\
   ∃a cap,w.cell? ⟨b,o+5,none⟩=some (.slice a kids.length cap)/\∀i (h:i<kids.length),∃c f,a=some ⟨c,f,none⟩/\lo<=c/\c<w.heap.size/\
    (have:=Bbi (A9a h);Vz lo w c (f+i*6) kids[i])
theorem Aig (lo:Nat)(w:World)(b o:Nat)(n:Stil.Net)(d:List Stil.Elem)(kids:List Stil.Arm):Vz lo w b o ⟨n,d,kids⟩=(Pq lo w b o n/\(∃f,w.cell? ⟨b,o+4,none⟩=some f/\Qs lo w f d)/\
   ∃a cap,w.cell? ⟨b,o+5,none⟩=some (.slice a kids.length cap)/\∀i (h:i<kids.length),∃c g,a=some ⟨c,g,none⟩/\lo<=c/\c<w.heap.size/\Vz lo w c (g+i*6) kids[i]):=by rw[Vz]
def Aax (lo:Nat)(w:World)(v:Value)(l:List Stil.Arm):Prop:=∃a cap,v=.slice a l.length cap/\∀i (h:i<l.length),∃b o,a=some ⟨b,o,none⟩/\lo<=b/\b<w.heap.size/\Vz lo w b (o+i*6) l[i]
theorem Ap6 (lo:Nat)(w:World)(b o:Nat)(n:Stil.Arm):Vz lo w b o n↔(Pq lo w b o n.net/\(∃i,w.cell? ⟨b,o+4,none⟩=some i/\Qs lo w i n.coils)/\∃h,w.cell? ⟨b,o+5,none⟩=some h/\Aax lo w h n.kids):=by
 obtain⟨k,e,kids⟩:=n;rw[Aig];constructor
 ·rintro⟨f,g,a,cap,c,d⟩;exact⟨f,g,_,c,a,cap,rfl,d⟩
 ·rintro⟨f,g,_,c,a,cap,rfl,d⟩;exact⟨f,g,a,cap,c,d⟩
theorem Vz.at {w:World}:∀(n:Stil.Arm) (b o:Nat),Vz lo w b o n->Sl w b o n:=by
 intro n;induction n using I9 with
 | h n z kids s=>
  intro b o h;rw[Aig] at h;rw[Adl];obtain⟨t,⟨f,u,j⟩,a,cap,r,k⟩:=h;refine⟨Pq.at _ _ _ t,⟨f,u,j.at⟩,a,cap,r,λi hi=>?_⟩;obtain⟨c,g,d,y,q,x⟩:=k i hi;exact⟨c,g,d,q,s _ (A9a hi) c _ x⟩
theorem Aax.at {w:World}{ns:List Stil.Arm}(h:Aax lo w v ns):Eb w v ns:=by
 obtain⟨a,cap,d,g⟩:=h;refine⟨a,cap,d,λi hi=>?_⟩;obtain⟨b,o,c,j,f,hd⟩:=g i hi;exact⟨b,o,c,f,Vz.at _ _ _ hd⟩
structure J3 (C:Nat->Prop)(W W':World):Prop where
 size:W.heap.size<=W'.heap.size
 same:∀(k:Nat) (o:Obj),¬C k->W.heap[k]?=some o->o.isCells=true->W'.heap[k]?=some o
theorem J3.refl (C:Nat->Prop)(W:World):J3 C W W:=⟨A88 _,λ_ _ _ h _=>h⟩
theorem J3.trans {C:Nat->Prop}(h:J3 C X Y)(k:J3 C Y Z):J3 C X Z:=⟨A9f h.size k.size,λi o b hi a=>k.same i o b (h.same i o b hi a) a⟩
theorem J3.of_below {C:Nat->Prop}(h:Below W.heap.size W W'):J3 C W W':=
 ⟨h.size,λk _ _ a _=>(h.block k (Array.getElem?_eq_some_iff.1 a).1).trans a⟩
theorem J3.drew {C:Nat->Prop}(h:J3 C W W'):J3 C W W'.drew:=⟨h.size,h.same⟩
theorem J3.call {C:Nat->Prop}(h:J3 C W X)(a:Below X.heap.size X Y):J3 C W Y:=h.trans (.of_below a)
theorem J3.set {C:Nat->Prop}{b:Nat}(h:J3 C W W')(a:C b)(v:Value):J3 C W (W'.setCell ⟨b,o,none⟩ v):=
 h.trans ⟨by simp[World.setCell],λk _ d c _=>(Below.heap_setCell W' ⟨b,o,none⟩ v k (λe=>d (by rw[e];exact a))).trans c⟩
theorem J3.putObj {C:Nat->Prop}(W:World){o:Obj}(c:Obj)(h:W.heap[l]?=some o)(d:o.isCells=false):J3 C W (W.putObj l c):=
 ⟨by simp[World.putObj],λk p _ a b=>by
  by_cases e:k=l
  ·subst e
   rw[h] at a;cases a;rw[d] at b;cases b
  ·rw[World.putObj_heap_other e];exact a⟩
theorem J3.cell {C:Nat->Prop}(h:J3 C W W'){b:Nat}(d:¬C b)(c:W.cell? ⟨b,o,none⟩=some v):W'.cell? ⟨b,o,none⟩=some v:=by
 obtain⟨p,a,f⟩:=cells_of_cell c;exact(World.cell?_of_block (w:=W) ((h.same b p d a f).trans a.symm)).trans c
theorem Bo {b:Nat}(h:W.cell? ⟨b,o,none⟩=some v):b<W.heap.size:=by
 obtain⟨p,a,_⟩:=cells_of_cell h;exact(Array.getElem?_eq_some_iff.1 a).1
def Kept (n₀:Nat)(C:Nat->Prop)(W W':World):Prop:=Below n₀ W W'/\J3 C W W'
theorem Kept.t {C:Nat->Prop}(h:Kept n₀ C X Y)(k:Kept n₀ C Y Z):Kept n₀ C X Z:=⟨h.1.trans k.1,h.2.trans k.2⟩
theorem Kept.b {C:Nat->Prop}{w:World}(d:n₀<=w.heap.size)(W:World)(l:Nat)(o a:Obj)(hl:w.heap.size<=l)(h:W.heap[l]?=some o)(c:o.isCells=false)(f:o.isWalk=false):Kept n₀ C W (W.putObj l a):=
 ⟨belowK_b d W l o a hl h c f,J3.putObj W a h c⟩
theorem Kept.refl (n₀:Nat)(C:Nat->Prop)(W:World):Kept n₀ C W W:=⟨Below.refl _ _,J3.refl _ _⟩
theorem Kept.of_below {C:Nat->Prop}(a:n₀<=W.heap.size)(h:Below W.heap.size W W'):Kept n₀ C W W':=⟨h.mono a, .of_below h⟩
structure Sm (w:World)(P:Stil.Net->Prop) where
 net:Stil.Net
 av:Value
 kv:Value
 hav:A7 w av net.one.args
 hkv:D8 w kv net.kids
 mem:P net
structure Qy (w:World)(P:Stil.Arm->Prop) where
 arm:Stil.Arm
 av:Value
 nv:Value
 cv:Value
 kv:Value
 hav:A7 w av arm.net.one.args
 hnv:D8 w nv arm.net.kids
 hcv:Fh w cv arm.coils
 hkv:Eb w kv arm.kids
 mem:P arm
def Qb (w:World)(C:Nat->Prop)(W:World)(v:Value)(l:List Stil.Net):Prop:=∃a cap,v=.slice a l.length cap/\∀i (h:i<l.length),∃b o,a=some ⟨b,o,none⟩/\¬C b/\
 ∃c d,W.cell? ⟨b,o+i*4,none⟩=some (.int .i64 l[i].kind)/\W.cell? ⟨b,o+i*4+1,none⟩=some (.int .i64 l[i].one.op)/\W.cell? ⟨b,o+i*4+2,none⟩=some c/\W.cell? ⟨b,o+i*4+3,none⟩=some d/\A7 w c l[i].one.args/\D8 w d l[i].kids
theorem Qb.keep {w:World}{C:Nat->Prop}{l:List Stil.Net}(h:Qb w C W v l)(d:J3 C W W'):Qb w C W' v l:=by
 obtain⟨a,cap,t,r⟩:=h;refine⟨a,cap,t,λi hi=>?_⟩;obtain⟨b,o,g,c,f,s,j,u,q,x,y,k⟩:=r i hi;exact⟨b,o,g,c,f,s,d.cell c j,d.cell c u,d.cell c q,d.cell c x,y,k⟩
theorem Qb.of_at {w:World}{C:Nat->Prop}{l:List Stil.Net}(h:D8 w v l)(d:Below w.heap.size w W)(A:∀k,C k->w.heap.size<=k):Qb w C W v l:=by
 obtain⟨a,cap,x,q⟩:=h;refine⟨a,cap,x,λi hi=>?_⟩;obtain⟨b,o,g,c,D⟩:=q i hi;obtain⟨s,y,f,u,j,r,z,t⟩:=D.open;exact⟨b,o,g,λh=>by have:=A b h;omega,f,u,(d.cell (p:=⟨b,_,none⟩) c).trans s,(d.cell (p:=⟨b,_,none⟩) c).trans y,(d.cell (p:=⟨b,_,none⟩) c).trans j,(d.cell (p:=⟨b,_,none⟩) c).trans r,z,t⟩
def O0 (w:World)(C:Nat->Prop)(W:World)(v:Value)(l:List Stil.Arm):Prop:=∃a cap,v=.slice a l.length cap/\∀i (h:i<l.length),∃b o,a=some ⟨b,o,none⟩/\¬C b/\
 ∃c f g d,W.cell? ⟨b,o+i*6,none⟩=some (.int .i64 l[i].net.kind)/\W.cell? ⟨b,o+i*6+1,none⟩=some (.int .i64 l[i].net.one.op)/\W.cell? ⟨b,o+i*6+2,none⟩=some c/\W.cell? ⟨b,o+i*6+3,none⟩=some f/\
  W.cell? ⟨b,o+i*6+4,none⟩=some g/\W.cell? ⟨b,o+i*6+5,none⟩=some d/\A7 w c l[i].net.one.args/\D8 w f l[i].net.kids/\Fh w g l[i].coils/\Eb w d l[i].kids
theorem O0.keep {w:World}{C:Nat->Prop}{l:List Stil.Arm}(h:O0 w C W v l)(d:J3 C W W'):O0 w C W' v l:=by
 obtain⟨a,cap,z,q⟩:=h;refine⟨a,cap,z,λi hi=>?_⟩;obtain⟨b,o,g,c,f,s,j,y,u,A,k,r,x,t,D⟩:=q i hi;exact⟨b,o,g,c,f,s,j,y,d.cell c u,d.cell c A,d.cell c k,d.cell c r,d.cell c x,d.cell c t,D⟩
theorem O0.of_at {w:World}{C:Nat->Prop}{l:List Stil.Arm}(h:Eb w v l)(d:Below w.heap.size w W)(J:∀k,C k->w.heap.size<=k):O0 w C W v l:=by
 obtain⟨a,cap,G,q⟩:=h;refine⟨a,cap,G,λi hi=>?_⟩;obtain⟨b,o,g,c,L⟩:=q i hi;obtain⟨t,j,E,D,y,K,s⟩:=L.open;obtain⟨z,H,f,x,r,u,I,A⟩:=t.open;exact⟨b,o,g,λh=>by have:=J b h;omega,f,x,j,E,(d.cell (p:=⟨b,_,none⟩) c).trans z,(d.cell (p:=⟨b,_,none⟩) c).trans H,(d.cell (p:=⟨b,_,none⟩) c).trans r,(d.cell (p:=⟨b,_,none⟩) c).trans u,(d.cell (p:=⟨b,_,none⟩) c).trans D,(d.cell (p:=⟨b,_,none⟩) c).trans y,I,A,K,s⟩
theorem V4 (h:KeepsFrom B W X)(p:Addr)(v:Value):KeepsFrom B W (X.setCell p v):=h.trans ((KeepsOthers.setCell X p v).from B)
theorem Qw (h:KeepsFrom B W X)(a:Below X.heap.size X Y):KeepsFrom B W Y:=h.trans ⟨a.size,λk _ _ b _=>(a.block k (Array.getElem?_eq_some_iff.1 b).1).trans b⟩
theorem Qv (h:KeepsFrom B W X):KeepsFrom B W X.drew:=h.trans ((KeepsOthers.drew X).from B)
theorem Ns (h:KeepsFrom B W X)(o:Obj):KeepsFrom B W (X.alloc o):=h.trans ((KeepsOthers.alloc X o).from B)
theorem Alp {C:Nat->Prop}{b:Nat}(h:Kept n₀ C W X)(a:n₀<=b)(c:C b)(v:Value):Kept n₀ C W (X.setCell ⟨b,o,none⟩ v):=⟨h.1.setCell (p:=⟨b,o,none⟩) a v,h.2.set c v⟩
theorem Vj {C:Nat->Prop}(h:Kept n₀ C W X)(b:n₀<=W.heap.size)(a:Below X.heap.size X Y):Kept n₀ C W Y:=h.t (Kept.of_below (A9f b h.2.size) a)
theorem Aym {C:Nat->Prop}(h:Kept n₀ C W X):Kept n₀ C W X.drew:=⟨h.1.drew,h.2.drew⟩
theorem Ox {b:Nat}(ob:Obj)(h:W.cell? ⟨b,o,none⟩=some v):(W.alloc ob).cell? ⟨b,o,none⟩=some v:=((Aa W ob).cell (p:=⟨b,o,none⟩) (Bo h)).trans h
theorem Pe {b:Nat}(ob:Obj)(h:W.cell? ⟨b,o,none⟩=some v)(a:W.frozen? ⟨b,o,none⟩=false):(W.alloc ob).frozen? ⟨b,o,none⟩=false:=((Aa W ob).frozen (p:=⟨b,o,none⟩) (Bo h)).trans a
theorem share {T G:Prop}(a:T->G)(b:T):G:=a b
theorem room_of_none (hd:F.depth=none)(k:Nat):F.room k:=λd h=>by rw[hd] at h;cases h
theorem RoundIn.anyDepth (hd:F.depth=none){m':Nat}{f:FuncId}{tmps:Array Value}{assign body:Code}{w:World}{R:Ending->World->Prop}
  (h:RoundIn F m P l f tmps assign body w R):RoundIn F m' P l f tmps assign body w R:=⟨h.1,λc a _=>h.2 c a (room_of_none hd _)⟩
theorem YieldAt.anyDepth (hd:F.depth=none)(m':Nat){args:Array Value}{R:Ending->World->Prop}(h:YieldAt F m P l args W R):YieldAt F m' P l args W R:=by
 obtain⟨a,c,assign,body,d,b⟩:=h;exact⟨a,c,assign,body,d,RoundIn.anyDepth hd b⟩
end Go.Proofs.YtobbpffcggchmaaGreatDoor
