import Derived.Test.YtifcnfeppdbjdaaGreatDoorGB
import Derived.Lib.SmallJoins
import Derived.Deep.RegionLaw
import Derived.Deep.DeepCutAuto
import Derived.RangeFuncNested
import Derived.RangeFuncBound
import Derived.Shelf.Abstract
namespace Stil
structure Io where
 code:Int
 one:Elem
def Io.fits (i:Io):Prop:=i64 i.code/\i.one.fits
def listWords:List (List UInt8):=[[],[108,100],[97,110,100],[111,114],[97,110,98],[111,114,98],[105,110,118],[109,112,115],[109,114,100],[109,112,112],[99,111,105,108],[101,110,100]]
def m7 (e:Elem):Bool:=e.op==0 && e.args.length==0
def P5 (i:Io):Bool:=if i.code<1\/11<i.code then false else if i.code<=3 then Du i.one.op i.one.args else if i.code=10 then Gt i.one.op i.one.args else m7 i.one
structure Pt where
 bits:Int
 forks:Int
 seen:Bool
 coil:Bool
def pt0:Pt:=⟨0,0,false,false⟩
def needs (c:Int):Int:=if c=1 then 0 else if c=4\/c=5 then 2 else 1
def low (c:Int):Int:=if c=5 then 2 else 1
def wrong (s:Pt)(i:Io):Int:=
 if P5 i=false then 2
 else if s.bits<needs i.code then 3
 else if i.code=1/\s.bits=16 then 4
 else if 7<=i.code/\1<s.bits then 5
 else if s.seen=true/\s.bits=low i.code/\(i.code=3\/i.code=6\/i.code=5) then 6
 else if i.code=7/\s.forks=8 then 7
 else if(i.code=8\/i.code=9)/\s.forks=0 then 7
 else if i.code=11/\0<s.forks then 7
 else if(i.code=8\/i.code=9\/i.code=11)/\s.coil=false then 8
 else 0
def next (s:Pt)(c:Int):Pt:=
 if c=11 then pt0
 else⟨if c=1 then s.bits+1 else if c=4\/c=5 then s.bits - 1 else s.bits,if c=7 then s.forks+1 else if c=9 then s.forks - 1 else s.forks,s.seen || c==10 || c==7,c==10⟩
def F8:Pt->Nat->List Io->Int × Nat
 | s,k,[]=>if 0<s.bits then(9,k) else(0,0)
 | s,k,i::r=>if 0<wrong s i then(wrong s i,k) else F8 (next s i.code) (k+1) r
def Ee (l:List Io):Int × Nat:=if 1000<l.length then(1,0) else F8 pt0 0 l
theorem qR (l:List Io)(s:Pt)(j:Nat)(h:j<l.length):F8 s j (l.drop j)=if 0<wrong s l[j] then(wrong s l[j],j) else F8 (next s l[j].code) (j+1) (l.drop (j+1)):=by
 rw[GQ h];rfl
theorem sA (l:List Io)(s:Pt)(j:Nat)(h:l.length<=j):F8 s j (l.drop j)=if 0<s.bits then(9,j) else(0,0):=by
 rw[GR h];rfl
def Pt.good (s:Pt):Prop:=0<=s.bits/\s.bits<=16/\0<=s.forks/\s.forks<=8/\(s.bits=0->s=pt0)
theorem NE:pt0.good:=⟨AY,AY,AY,AY,λ_=>rfl⟩
theorem NP (s:Pt)(i:Io):0<=wrong s i/\wrong s i<=8:=by
 unfold wrong;repeat' split
 all_goals omega
theorem MB {i:Io}(h:P5 i=true):1<=i.code/\i.code<=11:=by
 unfold P5 at h;split at h
 ·cases h
 ·omega
theorem OA {s:Pt}{i:Io}(h:wrong s i=0):P5 i=true/\needs i.code<=s.bits/\¬(i.code=1/\s.bits=16)/\¬(7<=i.code/\1<s.bits)/\¬(s.seen=true/\s.bits=low i.code/\(i.code=3\/i.code=6\/i.code=5))/\
  ¬(i.code=7/\s.forks=8)/\¬((i.code=8\/i.code=9)/\s.forks=0)/\¬(i.code=11/\0<s.forks)/\¬((i.code=8\/i.code=9\/i.code=11)/\s.coil=false):=by
 unfold wrong at h;split at h
 ·omega
 rename_i k;split at h
 ·omega
 rename_i t;split at h
 ·omega
 rename_i g;split at h
 ·omega
 rename_i c;split at h
 ·omega
 rename_i q;split at h
 ·omega
 rename_i f;split at h
 ·omega
 rename_i d;split at h
 ·omega
 rename_i b;split at h
 ·omega
 rename_i j;exact⟨by simpa using k,AQ,g,c,q,f,d,b,j⟩
theorem YE {s:Pt}{i:Io}(g:s.good)(h:wrong s i=0):(next s i.code).good:=by
 obtain⟨u,f,C,y,_,A,x,_,_⟩:=OA h;obtain⟨a,b,c,d,e⟩:=g;have z:=MB u;unfold next
 by_cases t:i.code=11
 ·rw[if_pos t];exact NE
 ·rw[if_neg t]
  unfold needs at f;refine⟨?_,?_,?_,?_,?_⟩
  ·show 0<=(if i.code=1 then s.bits+1 else if i.code=4\/i.code=5 then s.bits - 1 else s.bits)
   split
   ·omega
   ·split<;>omega
  ·show(if i.code=1 then s.bits+1 else if i.code=4\/i.code=5 then s.bits - 1 else s.bits)<=16
   split
   ·omega
   ·split<;>omega
  ·show 0<=(if i.code=7 then s.forks+1 else if i.code=9 then s.forks - 1 else s.forks)
   split
   ·omega
   ·split<;>omega
  ·show(if i.code=7 then s.forks+1 else if i.code=9 then s.forks - 1 else s.forks)<=8
   split
   ·omega
   ·split<;>omega
  ·intro w
   exfalso;have j:(if i.code=1 then s.bits+1 else if i.code=4\/i.code=5 then s.bits - 1 else s.bits)=0:=w;by_cases k:i.code=1
   ·rw[if_pos k] at j;clear f;omega
   ·rw[if_neg k] at j f
    by_cases q:i.code=4\/i.code=5
    ·rw[if_pos q] at j f;omega
    ·rw[if_neg q] at j f;omega
def rule (k:Nat)(s:Pt)(i:Io):Bool:=
 match k with
 | 0=>!P5 i
 | 1=>decide (s.bits<needs i.code)
 | 2=>decide (i.code=1) && decide (s.bits=16)
 | 3=>if i.code=7\/i.code=8\/i.code=9\/i.code=10\/i.code=11 then decide (1<s.bits) else false
 | 4=>if i.code=3\/i.code=6 then s.seen && decide (s.bits=1) else if i.code=5 then s.seen && decide (s.bits=2) else false
 | 5=>if i.code=7 then decide (s.forks=8) else if i.code=8\/i.code=9 then decide (s.forks=0) else if i.code=11 then decide (s.forks≠0) else false
 | _=>if i.code=8\/i.code=9\/i.code=11 then !s.coil else false
theorem UI {s:Pt}(i:Io)(_g0:0<=s.bits)(g:0<=s.forks):
  wrong s i=if rule 0 s i then 2 else if rule 1 s i then 3 else if rule 2 s i then 4 else if rule 3 s i then 5 else if rule 4 s i then 6 else if rule 5 s i then 7 else if rule 6 s i then 8 else 0:=by
 cases b:P5 i with
 | true=>
  have d:=MB b;have c:i.code=1\/i.code=2\/i.code=3\/i.code=4\/i.code=5\/i.code=6\/i.code=7\/i.code=8\/i.code=9\/i.code=10\/i.code=11:=AQ
  rcases c with h | h | h | h | h | h | h | h | h | h | h
  all_goals simp[wrong,rule,needs,low,b,h]
  all_goals grind
 | false=>simp[wrong,rule,b]
def behind (s:Pt)(c:Int):Pt:=⟨if c=1 then s.bits+1 else if c=4\/c=5\/c=11 then s.bits - 1 else s.bits,if c=7 then s.forks+1 else if c=9 then s.forks - 1 else s.forks,decide (c≠11) && (s.seen || c==10 || c==7),c==10⟩
theorem behind_next {s:Pt}{i:Io}(g:s.good)(h:wrong s i=0):behind s i.code=next s i.code:=by
 obtain⟨k,w,_,t,_,_,_,u,_⟩:=OA h;obtain⟨a,b,c,d,e⟩:=g;have x:=MB k;unfold next behind
 by_cases f:i.code=11
 ·rw[if_pos f]
  have q:s.bits=1:=by
   have:needs i.code=1:=by rw[f];rfl
   omega
  have j:s.forks=0:=AQ
  simp[f,q,j,pt0]
 ·rw[if_neg f]
  simp[f]
theorem Az1 {s:Pt}(g:s.good):(s=pt0)↔s.bits<=0:=by
 constructor
 ·rintro rfl;decide
 ·intro h;exact g.2.2.2.2 (by have:=g.1;omega)
theorem tB {s:Pt}{i:Io}(g:s.good)(k:Nat)(f:k<7)(b:∀q,q<k->rule q s i=false)(c:rule k s i=true):wrong s i=(k+2:Nat):=by
 rw[UI i g.1 g.2.2.1];have d:k=0\/k=1\/k=2\/k=3\/k=4\/k=5\/k=6:=AQ
 rcases d with rfl | rfl | rfl | rfl | rfl | rfl | rfl
 ·simp[c]
 ·simp[b 0 AQ,c]
 ·simp[b 0 AQ,b 1 AQ,c]
 ·simp[b 0 AQ,b 1 AQ,b 2 AQ,c]
 ·simp[b 0 AQ,b 1 AQ,b 2 AQ,b 3 AQ,c]
 ·simp[b 0 AQ,b 1 AQ,b 2 AQ,b 3 AQ,b 4 AQ,c]
 ·simp[b 0 AQ,b 1 AQ,b 2 AQ,b 3 AQ,b 4 AQ,b 5 AQ,c]
theorem xA {s:Pt}{i:Io}(g:s.good)(b:∀q,q<7->rule q s i=false):wrong s i=0:=by
 rw[UI i g.1 g.2.2.1];simp[b 0 AQ,b 1 AQ,b 2 AQ,b 3 AQ,b 4 AQ,b 5 AQ,b 6 AQ]
theorem qO (l:List Io):∀(s:Pt) (k:Nat),¬0<(F8 s k l).1->(F8 s k l).1=0/\(F8 s k l).2=0:=by
 induction l with
 | nil=>
  intro s k h;unfold F8 at h ⊢;by_cases b:0<s.bits
  ·rw[if_pos b] at h;exact absurd (show(0:Int)<9 by decide) h
  ·rw[if_neg b];exact⟨rfl,rfl⟩
 | cons i r c=>
  intro s k h;unfold F8 at h ⊢;by_cases b:0<wrong s i
  ·rw[if_pos b] at h;exact absurd b h
  ·rw[if_neg b] at h ⊢;exact c _ _ h
theorem Zt (l:List Io)(h:¬0<(Ee l).1):(Ee l).1=0/\(Ee l).2=0:=by
 unfold Ee at h ⊢;by_cases b:1000<l.length
 ·rw[if_pos b] at h;exact absurd (show(0:Int)<1 by decide) h
 ·rw[if_neg b] at h ⊢;exact qO l _ _ h
end Stil
namespace Go.Proofs.YtifcnfeppdbjdaaGreatDoor
open Tryz Go.RowKit Go.Sort Go.BigFrame
variable {base n size:Nat}{e:TypeId}{v:Value}{xs:List Value}
theorem QC:(prog.info? 55).map (λi=>(i.zero,i.size,i.bytes))=some (some (.agg #[AB 0,AB 0,AB 0]),3,24):=AX
def W9 (d:Stil.CC):List Value:=[AB d.kind,AB d.n,AB d.p]
def Au (b:List Stil.CC):List Value:=b.flatMap W9
theorem Ku (b:List Stil.CC):(Au b).length=b.length*3:=by
 induction b with
 | nil=>rfl
 | cons d r c=>simp[Au,W9] at c ⊢;omega
theorem pO (b:List Stil.CC)(d:Stil.CC):Au (b++[d])=Au b++W9 d:=by simp[Au]
theorem Nr (b:List Stil.CC):∀(i:Nat) (h:i<b.length),(Au b)[i*3]?=some (AB b[i].kind)/\(Au b)[i*3+1]?=some (AB b[i].n)/\(Au b)[i*3+2]?=some (AB b[i].p):=by
 induction b with
 | nil=>intro i h;simp at h
 | cons d r g=>
  intro i h;have e:Au (d::r)=AB d.kind::AB d.n::AB d.p::Au r:=rfl;cases i with
  | zero=>rw[e];simp
  | succ i=>
   have c:i<r.length:=by simpa using h
   rw[e];have:=g i c
   have f:(i+1)*3=i*3+3:=AQ
   rw[f];simpa using this
theorem add_plain (g j:Nat):((AK g 0):Addr).add j=(AK g j):=by unfold Addr.add;split<;>simp_all
theorem Cb {w:World}(h:w.ownsRow base e size v n xs)(f:0<n):∃g cap,v=AE (some (AK g 0)) n cap/\base<=g/\g<w.heap.size/\n<=cap/\∀j u,xs[j]?=some u->w.cell? (AK g j)=some u:=by
 have d:=h.2;rcases d with⟨_,i⟩ | ⟨g,cap,cur,hv,b,_,c,_⟩
 ·omega
 ·refine⟨g,cap,hv,b,(h.lt g yEi).2,c,λj u hu=>?_⟩
  have:=h.cells (g:=g) yEi j u hu
  rwa [add_plain] at this
theorem zl0 {p:Prop}(h:p:=by
 have hn:=List.length_eq_zero_iff.1 hd
 subst hn;rcases h.2 with⟨h0,_⟩ | ⟨g,cap,cur,hv,_⟩
 ·exact⟨none,0,h0,λi hi=>by simp at hi⟩
 ·exact⟨_,cap,hv,λi hi=>by simp at hi⟩):p:=h
theorem Dk.of_owns {w:World}{b:List Stil.CC}(h:w.ownsRow base 55 3 v b.length (Au b)):Dk w v b:=by
 by_cases hd:b.length=0
 ·exact zl0
 ·obtain⟨g,cap,hv,_,j,_,c⟩:=Cb h AQ
  refine⟨_,cap,hv,λi hi=>⟨g,0,rfl,j,?_⟩⟩;obtain⟨f,d,k⟩:=Nr b i hi;unfold Jg;rw[CV];exact⟨c _ _ f,c _ _ d,c _ _ k⟩
theorem ownsRow_below {w w':World}(h:w.ownsRow base e size v n xs)(b:AO w w'):w'.ownsRow base e size v n xs:=by
 refine⟨h.1,?_⟩;rcases h.2 with i | ⟨g,cap,cur,hv,c,d,f⟩
 ·exact Or.inl i
 ·have:=(h.lt g yEi).2
  exact Or.inr ⟨g,cap,cur,hv,c,by rw[b.block g this];exact d,f⟩
theorem H5 (W:World)(cs:List Value)(t:TypeId)(b:Nat)(c:b=W.heap.size):∀j u,cs[j]?=some u->(W.alloc (.cells cs.toArray t)).cell? (((AK b 0):Addr).add j)=some u:=by
 subst c;intro j u d;rw[add_plain,World.cell?_alloc_at _ _ _ _ rfl];simpa using d
theorem oq {P:Program}{ops:Array Oper}{o:Oper}{a:Act}{w:World}{K:Act->World->Prop}{Q:Exit->Act->World->Prop}{E:Prop}
  (hg:o.guard=none) (s x:Operand) (t:TypeId) (L:o.op=.call {callee:=.builtin .append,args:=#[s,x],argTypes:=#[t,t]})
  (base:Nat) (e:TypeId) (i:TypeInfo) (z:Value) (size bytes:Nat) (d:P.underlying t=some (.slice e)) (hi:P.info? e=some i) (I:i.zero=some z)
  (H:i.size=size) (k:i.bytes=bytes) (h:z.cells.size=size) (D:0<size)
  (v:Value) (n:Nat) (xs:List Value) (A:a.eval s=v) (M:w.ownsRow base e size v n xs)
  (ad:Addr) (m c:Nat) (news:List Value) (hx:a.eval x=.slice (some ad) m c) (hl:news.length=m*size) (f:∀j u,news[j]?=some u->w.cell? (ad.add j)=some u) (h1:∀u∈news,u.oneCell'=true)
  (q:n+m<=maxLen) (g:(n+m)*bytes<=140737488355328) (N:base<=w.heap.size)
  (C:∀b w',w'.ownsRow base e size b (n+m) (xs++news)->w.grownBy w' v.ownBlock->K (a.put o.dst b) w'):
  if Region.wanted o (yielded ops a.tmps)=true then Oper.wp P o a w K Q else E:=by
 have y:Region.wanted o (yielded ops a.tmps)=true:=by simp[Region.wanted,hg]
 rw[if_pos y];exact wp_append_own w s x t L base e i z size bytes d hi I H k h D v n xs A M ad m c news hx hl f h1 q g N λb w' J G _=>C b w' J G
theorem Wy (b:List Stil.CC):∀u∈Au b,u.oneCell'=true:=by
 intro u hu;simp only[Au,List.mem_flatMap,W9] at hu;obtain⟨d,_,hd⟩:=hu;simp at hd;rcases hd with rfl | rfl | rfl<;>rfl
theorem kQ (d e:Stil.CC):(d=e)↔(d.kind=e.kind/\d.n=e.n/\d.p=e.p):=by
 cases d;cases e;simp
end Go.Proofs.YtifcnfeppdbjdaaGreatDoor
namespace Stil
end Stil
namespace Go.Proofs.YtifcnfeppdbjdaaGreatDoor
open Tryz Go.RowKit Go.Sort Go.BigFrame Stil
variable {B base l lo m n₀ o p:Nat}{E:Prop}{F:Fence}{P:Program}{W W' X Y Z w':World}{a:Act}{ops:Array Oper}{r:Option Nat}{v:Value}
def Un (w:World):Nat->Nat->Stil.B9->Prop
 | b,o,⟨k,e,kids⟩=>w.cell? (AK b o)=some (AB k)/\w.cell? (AK b (o+1))=some (AB e.op)/\
   (∃d,w.cell? (AK b (o+2))=some d/\Dk w d e.args)/\
   ∃a cap,w.cell? (AK b (o+3))=some (AE a kids.length cap)/\∀i (h:i<kids.length),∃c f,a=some (AK c f)/\c<w.heap.size/\
    (have:=MX (CN h);Un w c (f+i*4) kids[i])
theorem Ly (w:World)(b o:Nat)(k:Int)(e:Stil.Elem)(kids:List Stil.B9):Un w b o ⟨k,e,kids⟩=(w.cell? (AK b o)=some (AB k)/\w.cell? (AK b (o+1))=some (AB e.op)/\
   (∃d,w.cell? (AK b (o+2))=some d/\Dk w d e.args)/\
   ∃a cap,w.cell? (AK b (o+3))=some (AE a kids.length cap)/\∀i (h:i<kids.length),∃c f,a=some (AK c f)/\c<w.heap.size/\Un w c (f+i*4) kids[i]):=by rw[Un]
def Gn (w:World)(v:Value)(ns:List Stil.B9):Prop:=∃a cap,v=AE a ns.length cap/\∀i (h:i<ns.length),∃b o,a=some (AK b o)/\b<w.heap.size/\Un w b (o+i*4) ns[i]
theorem fi (w:World)(b o:Nat)(k:Int)(e:Stil.Elem)(kids:List Stil.B9):Un w b o ⟨k,e,kids⟩↔(w.cell? (AK b o)=some (AB k)/\w.cell? (AK b (o+1))=some (AB e.op)/\
   (∃j,w.cell? (AK b (o+2))=some j/\Dk w j e.args)/\∃i,w.cell? (AK b (o+3))=some i/\Gn w i kids):=by
 rw[Ly];constructor
 ·rintro⟨d,g,c,a,cap,h,f⟩;exact⟨d,g,c,_,h,a,cap,rfl,f⟩
 ·rintro⟨d,g,c,_,h,a,cap,rfl,f⟩;exact⟨d,g,c,a,cap,h,f⟩
theorem zA0 {p:Prop}(h:p:=by
 obtain⟨b',o',ha,hl',hn⟩:=h6 i hi
 exact⟨b',o',ha,CB hl' hb.size,ih _ (CN hi) b' _ hn hl'⟩):p:=h
theorem Un.below {w:World}(hb:AO w w'):∀(n:Stil.B9) (b o:Nat),Un w b o n->b<w.heap.size->Un w' b o n:=by
 intro n;induction n using Gf with
 | h k e kids ih=>
  intro b o h c;rw[Ly] at h ⊢;obtain⟨j,s,⟨d,g,f⟩,a,cap,q,h6⟩:=h;refine⟨?_,?_,⟨d,?_,f.below hb⟩,a,cap,?_,λi hi=>?_⟩
  ·rw[hb.cell (p:=(AK b o)) c];exact j
  ·rw[hb.cell (p:=(AK b (o+1))) c];exact s
  ·rw[hb.cell (p:=(AK b (o+2))) c];exact g
  ·rw[hb.cell (p:=(AK b (o+3))) c];exact q
  ·exact zA0
theorem Gn.below {w:World}{ns:List Stil.B9}(h:Gn w v ns)(c:AO w w'):Gn w' v ns:=by
 obtain⟨a,cap,g,j⟩:=h;refine⟨a,cap,g,λi hi=>?_⟩;obtain⟨b,o,f,d,k⟩:=j i hi;exact⟨b,o,f,CB d c.size,Un.below c _ _ _ k d⟩
def KV (w:World)(b o:Nat)(e:Stil.Elem):Prop:=w.cell? (AK b o)=some (AB e.op)/\∃c,w.cell? (AK b (o+1))=some c/\Dk w c e.args
def Iz (w:World)(v:Value)(es:List Stil.Elem):Prop:=∃a cap,v=AE a es.length cap/\∀i (h:i<es.length),∃b o,a=some (AK b o)/\b<w.heap.size/\KV w b (o+i*2) es[i]
theorem KV.below {w:World}{b:Nat}{e:Stil.Elem}(h:KV w b o e)(c:AO w w')(d:b<w.heap.size):KV w' b o e:=by
 obtain⟨g,i,j,f⟩:=h;exact⟨by rw[c.cell (p:=(AK b o)) d];exact g,i,by rw[c.cell (p:=(AK b (o+1))) d];exact j,f.below c⟩
theorem Iz.below {w:World}{es:List Stil.Elem}(h:Iz w v es)(c:AO w w'):Iz w' v es:=by
 obtain⟨a,cap,g,j⟩:=h;refine⟨a,cap,g,λi hi=>?_⟩;obtain⟨b,o,f,d,k⟩:=j i hi;exact⟨b,o,f,CB d c.size,k.below c d⟩
def Xm (w:World):Nat->Nat->Stil.B8->Prop
 | b,o,⟨n,g,kids⟩=>Un w b o n/\(∃d,w.cell? (AK b (o+4))=some d/\Iz w d g)/\
   ∃a cap,w.cell? (AK b (o+5))=some (AE a kids.length cap)/\∀i (h:i<kids.length),∃c f,a=some (AK c f)/\c<w.heap.size/\
    (have:=MX (CN h);Xm w c (f+i*6) kids[i])
theorem QE (w:World)(b o:Nat)(n:Stil.B9)(d:List Stil.Elem)(kids:List Stil.B8):Xm w b o ⟨n,d,kids⟩=(Un w b o n/\(∃f,w.cell? (AK b (o+4))=some f/\Iz w f d)/\
   ∃a cap,w.cell? (AK b (o+5))=some (AE a kids.length cap)/\∀i (h:i<kids.length),∃c g,a=some (AK c g)/\c<w.heap.size/\Xm w c (g+i*6) kids[i]):=by rw[Xm]
def Fe (w:World)(v:Value)(l:List Stil.B8):Prop:=∃a cap,v=AE a l.length cap/\∀i (h:i<l.length),∃b o,a=some (AK b o)/\b<w.heap.size/\Xm w b (o+i*6) l[i]
theorem Xm.below {w:World}(hb:AO w w'):∀(n:Stil.B8) (b o:Nat),Xm w b o n->b<w.heap.size->Xm w' b o n:=by
 intro n;induction n using Gl with
 | h n q kids ih=>
  intro b o h c;rw[QE] at h ⊢;obtain⟨j,⟨d,f,g⟩,a,cap,k,h6⟩:=h;refine⟨Un.below hb _ _ _ j c,⟨d,?_,g.below hb⟩,a,cap,?_,λi hi=>?_⟩
  ·rw[hb.cell (p:=(AK b (o+4))) c];exact f
  ·rw[hb.cell (p:=(AK b (o+5))) c];exact k
  ·exact zA0
theorem Fe.below {w:World}{ns:List Stil.B8}(h:Fe w v ns)(c:AO w w'):Fe w' v ns:=by
 obtain⟨a,cap,g,j⟩:=h;refine⟨a,cap,g,λi hi=>?_⟩;obtain⟨b,o,f,d,k⟩:=j i hi;exact⟨b,o,f,CB d c.size,Xm.below c _ _ _ k d⟩
theorem Un.open {w:World}{b:Nat}{n:Stil.B9}(h:Un w b o n):w.cell? (AK b o)=some (AB n.kind)/\w.cell? (AK b (o+1))=some (AB n.one.op)/\
   ∃d c,w.cell? (AK b (o+2))=some d/\w.cell? (AK b (o+3))=some c/\Dk w d n.one.args/\Gn w c n.kids:=by
 obtain⟨k,e,kids⟩:=n;obtain⟨g,q,⟨d,f,s⟩,c,j,i⟩:=(fi _ _ _ _ _ _).1 h;exact⟨g,q,d,c,f,j,s,i⟩
theorem Xm.open {w:World}{b:Nat}{n:Stil.B8}(h:Xm w b o n):Un w b o n.net/\∃c d,w.cell? (AK b (o+4))=some c/\w.cell? (AK b (o+5))=some d/\Iz w c n.coils/\Fe w d n.kids:=by
 obtain⟨n,q,kids⟩:=n;rw[QE] at h;obtain⟨g,⟨c,f,k⟩,a,cap,j,i⟩:=h;exact⟨g,c,_,f,j,k,a,cap,rfl,i⟩
theorem Bj {b c:Nat}(h:c≠b):(W.setCell ⟨b,o,none⟩ v).cell? ⟨c,p,none⟩=W.cell? ⟨c,p,none⟩:=by
 simp[go_sem]
theorem A7 {b:Nat}(h:p≠o):(W.setCell ⟨b,o,none⟩ v).cell? ⟨b,p,none⟩=W.cell? ⟨b,p,none⟩:=by
 simp[go_sem]
theorem Fb {b:Nat}{u:Value}(h:W.cell? ⟨b,o,none⟩=some u):(W.setCell ⟨b,o,none⟩ v).cell? ⟨b,o,none⟩=some v:=by
 simp[go_sem,h]
theorem I7 (W:World)(p:Addr)(v:Value):W.heap.size<=(W.setCell p v).heap.size:=((Below.refl 0 W).setCell (DI _) v).size
def Ny (lo:Nat)(w:World)(v:Value)(c:List Stil.CC):Prop:=∃a cap,v=AE a c.length cap/\∀i (h:i<c.length),∃b o,a=some (AK b o)/\lo<=b/\b<w.heap.size/\Jg w b (o+i*3) c[i]
theorem Ny.at {w:World}{c:List Stil.CC}(h:Ny lo w v c):Dk w v c:=by
 obtain⟨a,cap,g,j⟩:=h;refine⟨a,cap,g,λi hi=>?_⟩;obtain⟨b,o,d,k,f,hd⟩:=j i hi;exact⟨b,o,d,f,hd⟩
theorem Ny.of_owns {w:World}{b:List Stil.CC}(h:w.ownsRow base 55 3 v b.length (Au b)):Ny base w v b:=by
 by_cases hd:b.length=0
 ·exact zl0
 ·obtain⟨g,cap,hv,q,j,_,c⟩:=Cb h AQ
  refine⟨_,cap,hv,λi hi=>⟨g,0,rfl,q,j,?_⟩⟩;obtain⟨f,d,k⟩:=Nr b i hi;unfold Jg;rw[CV];exact⟨c _ _ f,c _ _ d,c _ _ k⟩
def Xj (lo:Nat)(w:World):Nat->Nat->Stil.B9->Prop
 | b,o,⟨k,e,kids⟩=>w.cell? (AK b o)=some (AB k)/\w.cell? (AK b (o+1))=some (AB e.op)/\
   (∃d,w.cell? (AK b (o+2))=some d/\Ny lo w d e.args)/\
   ∃a cap,w.cell? (AK b (o+3))=some (AE a kids.length cap)/\∀i (h:i<kids.length),∃c f,a=some (AK c f)/\lo<=c/\c<w.heap.size/\
    (have:=MX (CN h);Xj lo w c (f+i*4) kids[i])
theorem XI (lo:Nat)(w:World)(b o:Nat)(k:Int)(e:Stil.Elem)(kids:List Stil.B9):Xj lo w b o ⟨k,e,kids⟩=(w.cell? (AK b o)=some (AB k)/\w.cell? (AK b (o+1))=some (AB e.op)/\
   (∃d,w.cell? (AK b (o+2))=some d/\Ny lo w d e.args)/\
   ∃a cap,w.cell? (AK b (o+3))=some (AE a kids.length cap)/\∀i (h:i<kids.length),∃c f,a=some (AK c f)/\lo<=c/\c<w.heap.size/\Xj lo w c (f+i*4) kids[i]):=by rw[Xj]
def Zm (lo:Nat)(w:World)(v:Value)(ns:List Stil.B9):Prop:=∃a cap,v=AE a ns.length cap/\∀i (h:i<ns.length),∃b o,a=some (AK b o)/\lo<=b/\b<w.heap.size/\Xj lo w b (o+i*4) ns[i]
theorem wT (lo:Nat)(w:World)(b o:Nat)(n:Stil.B9):Xj lo w b o n↔(w.cell? (AK b o)=some (AB n.kind)/\w.cell? (AK b (o+1))=some (AB n.one.op)/\
   (∃j,w.cell? (AK b (o+2))=some j/\Ny lo w j n.one.args)/\∃i,w.cell? (AK b (o+3))=some i/\Zm lo w i n.kids):=by
 obtain⟨k,e,kids⟩:=n;rw[XI];constructor
 ·rintro⟨f,h,c,a,cap,d,g⟩;exact⟨f,h,c,_,d,a,cap,rfl,g⟩
 ·rintro⟨f,h,c,_,d,a,cap,rfl,g⟩;exact⟨f,h,c,a,cap,d,g⟩
theorem Xj.at {w:World}:∀(n:Stil.B9) (b o:Nat),Xj lo w b o n->Un w b o n:=by
 intro n;induction n using Gf with
 | h k e kids u=>
  intro b o h;rw[XI] at h;rw[Ly];obtain⟨y,A,⟨g,t,j⟩,a,cap,z,q⟩:=h;refine⟨y,A,⟨g,t,j.at⟩,a,cap,z,λi hi=>?_⟩;obtain⟨c,s,d,C,x,f⟩:=q i hi;exact⟨c,s,d,x,u _ (CN hi) c _ f⟩
theorem Zm.at {w:World}{ns:List Stil.B9}(h:Zm lo w v ns):Gn w v ns:=by
 obtain⟨a,cap,f,g⟩:=h;refine⟨a,cap,f,λi hi=>?_⟩;obtain⟨b,o,c,j,d,hd⟩:=g i hi;exact⟨b,o,c,d,Xj.at _ _ _ hd⟩
structure Ky (C:Nat->Prop)(W W':World):Prop where
 size:W.heap.size<=W'.heap.size
 same:∀(k:Nat) (o:Obj),¬C k->W.heap[k]?=some o->o.isCells=true->W'.heap[k]?=some o
theorem Ky.refl (C:Nat->Prop)(W:World):Ky C W W:=⟨CG _,λ_ _ _ h _=>h⟩
theorem Ky.trans {C:Nat->Prop}(h:Ky C X Y)(k:Ky C Y Z):Ky C X Z:=⟨CJ h.size k.size,λi o b hi c=>k.same i o b (h.same i o b hi c) c⟩
theorem Ky.of_below {C:Nat->Prop}(h:AO W W'):Ky C W W':=
 ⟨h.size,λk _ _ b _=>(h.block k (Array.getElem?_eq_some_iff.1 b).1).trans b⟩
theorem Ky.drew {C:Nat->Prop}(h:Ky C W W'):Ky C W W'.drew:=⟨h.size,h.same⟩
theorem Ky.call {C:Nat->Prop}(h:Ky C W X)(b:AO X Y):Ky C W Y:=h.trans (.of_below b)
theorem Ky.set {C:Nat->Prop}{b:Nat}(h:Ky C W W')(d:C b)(v:Value):Ky C W (W'.setCell (AK b o) v):=
 h.trans ⟨by simp[World.setCell],λk _ f c _=>(Below.heap_setCell W' (AK b o) v k (λe=>f (by rw[e];exact d))).trans c⟩
theorem Ky.putObj {C:Nat->Prop}(W:World){o:Obj}(f:Obj)(h:W.heap[l]?=some o)(d:o.isCells=false):Ky C W (W.putObj l f):=
 ⟨by simp[World.putObj],λk p _ b c=>by
  by_cases e:k=l
  ·subst e
   rw[h] at b;cases b;rw[d] at c;cases c
  ·rw[World.putObj_heap_other e];exact b⟩
theorem Ky.cell {C:Nat->Prop}(h:Ky C W W'){b:Nat}(f:¬C b)(d:W.cell? (AK b o)=some v):W'.cell? (AK b o)=some v:=by
 obtain⟨p,c,g⟩:=cells_of_cell d;exact(World.cell?_of_block (w:=W) ((h.same b p f c g).trans c.symm)).trans d
theorem Be {b:Nat}(h:W.cell? (AK b o)=some v):b<W.heap.size:=by
 obtain⟨p,c,_⟩:=cells_of_cell h;exact(Array.getElem?_eq_some_iff.1 c).1
def Kept (n₀:Nat)(C:Nat->Prop)(W W':World):Prop:=Below n₀ W W'/\Ky C W W'
theorem Kept.t {C:Nat->Prop}(h:Kept n₀ C X Y)(k:Kept n₀ C Y Z):Kept n₀ C X Z:=⟨h.1.trans k.1,h.2.trans k.2⟩
theorem Kept.b {C:Nat->Prop}{w:World}(f:n₀<=w.heap.size)(W:World)(l:Nat)(o c:Obj)(hl:w.heap.size<=l)(h:W.heap[l]?=some o)(d:o.isCells=false)(g:o.isWalk=false):Kept n₀ C W (W.putObj l c):=
 ⟨belowK_b f W l o c hl h d g,Ky.putObj W c h d⟩
theorem Kept.refl (n₀:Nat)(C:Nat->Prop)(W:World):Kept n₀ C W W:=⟨Below.refl _ _,Ky.refl _ _⟩
theorem Kept.of_below {C:Nat->Prop}(b:n₀<=W.heap.size)(h:AO W W'):Kept n₀ C W W':=⟨h.mono b, .of_below h⟩
structure Ur (w:World)(P:Stil.B9->Prop) where
 net:Stil.B9
 av:Value
 kv:Value
 hav:Dk w av net.one.args
 hkv:Gn w kv net.kids
 mem:P net
structure Sr (w:World)(P:Stil.B8->Prop) where
 arm:Stil.B8
 av:Value
 nv:Value
 cv:Value
 kv:Value
 hav:Dk w av arm.net.one.args
 hnv:Gn w nv arm.net.kids
 hcv:Iz w cv arm.coils
 hkv:Fe w kv arm.kids
 mem:P arm
def Qu (w:World)(C:Nat->Prop)(W:World)(v:Value)(l:List Stil.B9):Prop:=∃a cap,v=AE a l.length cap/\∀i (h:i<l.length),∃b o,a=some (AK b o)/\¬C b/\
 ∃d c,W.cell? (AK b (o+i*4))=some (AB l[i].kind)/\W.cell? (AK b (o+i*4+1))=some (AB l[i].one.op)/\W.cell? (AK b (o+i*4+2))=some d/\W.cell? (AK b (o+i*4+3))=some c/\Dk w d l[i].one.args/\Gn w c l[i].kids
theorem Qu.keep {w:World}{C:Nat->Prop}{l:List Stil.B9}(h:Qu w C W v l)(d:Ky C W W'):Qu w C W' v l:=by
 obtain⟨a,cap,u,x⟩:=h;refine⟨a,cap,u,λi hi=>?_⟩;obtain⟨b,o,f,c,k,g,s,j,z,q,t,y⟩:=x i hi;exact⟨b,o,f,c,k,g,d.cell c s,d.cell c j,d.cell c z,d.cell c q,t,y⟩
theorem Qu.of_at {w:World}{C:Nat->Prop}{l:List Stil.B9}(h:Gn w v l)(d:AO w W)(y:∀k,C k->w.heap.size<=k):Qu w C W v l:=by
 obtain⟨a,cap,z,A⟩:=h;refine⟨a,cap,z,λi hi=>?_⟩;obtain⟨b,o,f,c,j⟩:=A i hi;obtain⟨s,t,q,g,G,u,x,D⟩:=j.open;exact⟨b,o,f,λh=>by have:=y b h;omega,q,g,(d.cell (p:=(AK b _)) c).trans s,(d.cell (p:=(AK b _)) c).trans t,(d.cell (p:=(AK b _)) c).trans G,(d.cell (p:=(AK b _)) c).trans u,x,D⟩
def Pz (w:World)(C:Nat->Prop)(W:World)(v:Value)(l:List Stil.B8):Prop:=∃a cap,v=AE a l.length cap/\∀i (h:i<l.length),∃b o,a=some (AK b o)/\¬C b/\
 ∃g d c f,W.cell? (AK b (o+i*6))=some (AB l[i].net.kind)/\W.cell? (AK b (o+i*6+1))=some (AB l[i].net.one.op)/\W.cell? (AK b (o+i*6+2))=some g/\W.cell? (AK b (o+i*6+3))=some d/\
  W.cell? (AK b (o+i*6+4))=some c/\W.cell? (AK b (o+i*6+5))=some f/\Dk w g l[i].net.one.args/\Gn w d l[i].net.kids/\Iz w c l[i].coils/\Fe w f l[i].kids
theorem Pz.keep {w:World}{C:Nat->Prop}{l:List Stil.B8}(h:Pz w C W v l)(d:Ky C W W'):Pz w C W' v l:=by
 obtain⟨a,cap,A,D⟩:=h;refine⟨a,cap,A,λi hi=>?_⟩;obtain⟨b,o,f,c,k,g,u,j,q,x,G,y,t,s,z⟩:=D i hi;exact⟨b,o,f,c,k,g,u,j,d.cell c q,d.cell c x,d.cell c G,d.cell c y,d.cell c t,d.cell c s,z⟩
theorem Pz.of_at {w:World}{C:Nat->Prop}{l:List Stil.B8}(h:Fe w v l)(d:AO w W)(K:∀k,C k->w.heap.size<=k):Pz w C W v l:=by
 obtain⟨a,cap,L,M⟩:=h;refine⟨a,cap,L,λi hi=>?_⟩;obtain⟨b,o,f,c,q⟩:=M i hi;obtain⟨t,A,g,z,y,D,x⟩:=q.open;obtain⟨u,G,s,j,H,I,J,N⟩:=t.open;exact⟨b,o,f,λh=>by have:=K b h;omega,s,j,A,g,(d.cell (p:=(AK b _)) c).trans u,(d.cell (p:=(AK b _)) c).trans G,(d.cell (p:=(AK b _)) c).trans H,(d.cell (p:=(AK b _)) c).trans I,(d.cell (p:=(AK b _)) c).trans z,(d.cell (p:=(AK b _)) c).trans y,J,N,D,x⟩
theorem Xq (h:KeepsFrom B W X)(p:Addr)(v:Value):KeepsFrom B W (X.setCell p v):=h.trans ((KeepsOthers.setCell X p v).from B)
theorem Sj (h:KeepsFrom B W X)(c:AO X Y):KeepsFrom B W Y:=h.trans ⟨c.size,λk _ _ b _=>(c.block k (Array.getElem?_eq_some_iff.1 b).1).trans b⟩
theorem Si (h:KeepsFrom B W X):KeepsFrom B W X.drew:=h.trans ((KeepsOthers.drew X).from B)
theorem Ol (h:KeepsFrom B W X)(o:Obj):KeepsFrom B W (X.alloc o):=h.trans ((KeepsOthers.alloc X o).from B)
theorem QI {C:Nat->Prop}{b:Nat}(h:Kept n₀ C W X)(c:n₀<=b)(d:C b)(v:Value):Kept n₀ C W (X.setCell (AK b o) v):=⟨h.1.setCell (p:=(AK b o)) c v,h.2.set d v⟩
theorem Wu {C:Nat->Prop}(h:Kept n₀ C W X)(b:n₀<=W.heap.size)(c:AO X Y):Kept n₀ C W Y:=h.t (Kept.of_below (CJ b h.2.size) c)
theorem Azc {C:Nat->Prop}(h:Kept n₀ C W X):Kept n₀ C W X.drew:=⟨h.1.drew,h.2.drew⟩
theorem Px {b:Nat}(ob:Obj)(h:W.cell? (AK b o)=some v):(W.alloc ob).cell? (AK b o)=some v:=((Aa W ob).cell (p:=(AK b o)) (Be h)).trans h
theorem Qe {b:Nat}(ob:Obj)(h:W.cell? (AK b o)=some v)(c:W.frozen? (AK b o)=false):(W.alloc ob).frozen? (AK b o)=false:=((Aa W ob).frozen (p:=(AK b o)) (Be h)).trans c
theorem share {T G:Prop}(c:T->G)(b:T):G:=c b
theorem room_of_none (hd:F.depth=none)(k:Nat):F.room k:=λd h=>by rw[hd] at h;cases h
theorem RoundIn.anyDepth (hd:F.depth=none){m':Nat}{f:FuncId}{tmps:Array Value}{assign body:Code}{w:World}{R:Ending->World->Prop}
  (h:RoundIn F m P l f tmps assign body w R):RoundIn F m' P l f tmps assign body w R:=⟨h.1,λc b _=>h.2 c b (room_of_none hd _)⟩
theorem YieldAt.anyDepth (hd:F.depth=none)(m':Nat){args:Array Value}{R:Ending->World->Prop}(h:YieldAt F m P l args W R):YieldAt F m' P l args W R:=by
 obtain⟨d,f,assign,body,c,b⟩:=h;exact⟨d,f,assign,body,c,RoundIn.anyDepth hd b⟩
theorem Eh {o:Oper}{w:World}{K:Act->World->Prop}{Q:Exit->Act->World->Prop}
  (hg:o.guard=none) (s x:Operand) (t:TypeId) (N:o.op=.call {callee:=.builtin .append,args:=#[s,x],argTypes:=#[t,t]})
  (base:Nat) (e:TypeId) (i:TypeInfo) (z:Value) (size bytes:Nat) (d:P.underlying t=some (.slice e)) (hi:P.info? e=some i) (J:i.zero=some z)
  (I:i.size=size) (q:i.bytes=bytes) (k:z.cells.size=size) (G:0<size)
  (v:Value) (n:Nat) (xs:List Value) (C:a.eval s=v) (O:w.ownsRow base e size v n xs)
  (ad:Addr) (m c:Nat) (news:List Value) (hx:a.eval x=.slice (some ad) m c) (hl:news.length=m*size) (g:∀j u,news[j]?=some u->w.cell? (ad.add j)=some u) (h1:∀u∈news,u.oneCell'=true)
  (y:n+m<=maxLen) (h:(n+m)*bytes<=140737488355328) (R:base<=w.heap.size)
  (D:∀b w',w'.ownsRow base e size b (n+m) (xs++news)->w.grownBy w' v.ownBlock->(b.ownBlock=v.ownBlock\/b.ownBlock=some w.heap.size)->K (a.put o.dst b) w'):
  if Region.wanted o (yielded ops a.tmps)=true then Oper.wp P o a w K Q else E:=by
 have A:Region.wanted o (yielded ops a.tmps)=true:=by simp[Region.wanted,hg]
 rw[if_pos A];obtain⟨b,w',f,M,H,S,L⟩:=run_append_own_at (P:=P) w base t o.type e i z size bytes d hi J I q k G v n xs O ad m c news hl g h1 y h R;unfold Oper.wp execOp;simp only[N,resolve,invoke,builtin,Sem.run_bind,Sem.run_pure,Result.andThen_ok,EL,CP,C3,C,hx,f];exact D b w' M H L
theorem TD {w:World}{b:Nat}{c:List Stil.CC}(h:∀i (h:i<c.length),Jg w b (o+i*3) c[i]):∀j u,(Au c)[j]?=some u->w.cell? (((AK b o):Addr).add j)=some u:=by
 intro j u hu;have y:=(List.getElem?_eq_some_iff.1 hu).1;have C:(Au c).length=c.length*3:=by
  clear hu y h;induction c with
  | nil=>rfl
  | cons d r A=>have e:Au (d::r)=AB d.kind::AB d.n::AB d.p::Au r:=rfl;rw[e];simp[A];omega
 have hi:j / 3<c.length:=AQ
 obtain⟨k,g,q⟩:=Nr c (j / 3) hi;obtain⟨s,x,t⟩:=h (j / 3) hi;rw[Addr.add_lit];have z:j=j / 3*3\/j=j / 3*3+1\/j=j / 3*3+2:=AQ
 rcases z with e | e | e
 ·rw[e] at hu
  rw[hu] at k;have f:o+j=o+j / 3*3:=AQ
  rw[f,s];exact k.symm
 ·rw[e] at hu
  rw[hu] at g;have f:o+j=o+j / 3*3+1:=AQ
  rw[f,x];exact g.symm
 ·rw[e] at hu
  rw[hu] at q;have f:o+j=o+j / 3*3+2:=AQ
  rw[f,t];exact q.symm
theorem Dx {w:World}{b:Nat}(h:w.grownBy w' r)(d:b<w.heap.size)(c:r≠some b):w'.cell? (AK b o)=w.cell? (AK b o):=by
 simp only[World.cell?,h.block b d (λe=>c e.symm)]
theorem Ik {w:World}{b:Nat}(h:w.grownBy w' r)(d:b<w.heap.size)(c:r≠some b):w'.frozen? (AK b o)=w.frozen? (AK b o):=by
 simp only[World.frozen?,h.block b d (λe=>c e.symm)]
theorem Ah {w:World}{s n:Nat}{e:TypeId}{xs:List Value}(h:w.ownsRow base e s v n xs):∃a cap,v=.slice a n cap:=by
 rcases h.2 with⟨b,d⟩ | ⟨g,c,cur,b,_⟩
 ·exact⟨none,0,by rw[b,d]⟩
 ·exact⟨_,_,b⟩
set_option maxHeartbeats 1000000 in
set_option maxRecDepth 100000 in
theorem Wm (op:Int)(v:Value)(c:List Stil.CC)(w:World)(V:Dk w v c)(hl:c.length<=1048576):
  Calls prog 82 #[.agg #[.int .i64 op,v]] w λe w'=>∃u,e=.returned (.agg #[.int .i64 op,u])/\w'.ownsRow w.heap.size 55 3 u c.length (Au c)/\Below w.heap.size w w':=by
 obtain⟨S,hi,O,U,L⟩:=info_parts QC;obtain⟨a,cap,rfl,q⟩:=V;by_cases hd:c.length=0
 ·obtain rfl:c=[]:=List.length_eq_zero_iff.1 hd
  clear q;have ab:∀W:World,W.ownsRow w.heap.size 55 3 (.slice none 0 0) 0 []:=λW=>⟨rfl,Or.inl ⟨rfl,rfl⟩⟩
  cases a;all_goals
   go_enter func82,ntmps82
   go_upto_region 1 with fail
   go_region
   all_goals go_wp2
   all_goals exact bodyPost_ret (v:=.agg #[.int .i64 op, .slice none 0 0]) (by simp[results,results82,go_sem]) rfl ⟨_,rfl,ab _,AW⟩
 ·obtain⟨b,o,rfl,aa,_⟩:=q 0 AQ
  have D:∀i (h:i<c.length),Jg w b (o+i*3) c[i]:=by
   intro i h;obtain⟨b1,o1,x,_,h1⟩:=q i h;simp only[CZ,Addr.mk.injEq,E0] at x;obtain⟨rfl,rfl⟩:=x;exact h1
  have s:Hid (∀W,Below w.heap.size w W->∀j u,(Au c)[j]?=some u->W.cell? ((⟨b,o,none⟩:Addr).add j)=some u):=by
   intro W d;exact TD (λi h=>(D i h).below d aa)
  clear q D;go_enter func82,ntmps82;obtain⟨W,d⟩:∃W,W=(w.alloc (.cells #[.int .i64 op, .slice (some ⟨b,o,none⟩) c.length cap] 51)).alloc (.cells #[.int .i64 0, .slice none 0 0] 51):=⟨_,rfl⟩
  have G:W.heap.size=w.heap.size+2:=by rw[d];simp
  have N:W.cell? ⟨w.heap.size,0,none⟩=some (.int .i64 op):=by rw[d];simp[go_sem]
  have q1:W.cell? ⟨w.heap.size,1,none⟩=some (.slice (some ⟨b,o,none⟩) c.length cap):=by rw[d];simp[go_sem]
  have q2:W.cell? ⟨w.heap.size+1,0,none⟩=some (.int .i64 0):=by rw[d];simp[go_sem]
  have I:W.cell? ⟨w.heap.size+1,1,none⟩=some (.slice none 0 0):=by rw[d];simp[go_sem]
  have p2:W.frozen? ⟨w.heap.size+1,0,none⟩=false:=by rw[d];simp[go_sem]
  have M:W.frozen? ⟨w.heap.size+1,1,none⟩=false:=by rw[d];simp[go_sem]
  have C:Below w.heap.size w W:=by rw[d];exact Bd (Aa _ _) _
  have A:=s W C;have qw:=AV A;have bH:=AV G;clear A;go_upto_region 1 with fail
  rw[<-d];clear d G s
  go_region_law (refine Eh rfl _ _ 49 rfl (w.heap.size+2) 55 S (.agg #[.int .i64 0, .int .i64 0, .int .i64 0]) 3 24 underlying49 hi O U L rfl AY (.slice none 0 0) 0 [] rfl ⟨rfl,Or.inl ⟨rfl,rfl⟩⟩ _ _ _ (Au c) rfl (Ku c) (by exact qw.out) (Wy c) A6 AQ (by have:=bH.out;simp only[World.size_drew];omega) ?_;intro v' g y f aW;obtain⟨z,t,J⟩:=Ah y;subst J;have ac:w.heap.size+1<g.heap.size:=(by have h1:=bH.out;have h2:=f.size;simp at h2;omega);have g0:g.cell? ⟨w.heap.size,0,none⟩=some (.int .i64 op):=(Dx f yCj yDi).trans (by simpa using N);have Q:g.cell? ⟨w.heap.size+1,0,none⟩=some (.int .i64 0):=(Dx f yCj yDi).trans (by simpa using q2);have T:g.cell? ⟨w.heap.size+1,1,none⟩=some (.slice none 0 0):=(Dx f yCj yDi).trans (by simpa using I);have y2:g.frozen? ⟨w.heap.size+1,0,none⟩=false:=(Ik f yCj yDi).trans (by simpa using p2);have y3:g.frozen? ⟨w.heap.size+1,1,none⟩=false:=(Ik f yCj yDi).trans (by simpa using M))
  all_goals go_wp2
  all_goals
   refine bodyPost_ret (v:=.agg #[.int .i64 op, .slice z (0+c.length) t]) (by simp[results,results82,go_sem,Q,T]) rfl ⟨_,rfl,?_,?_⟩
   ·have K:=ownsRow_setCell_below (a:=⟨w.heap.size+1,1,none⟩) (ownsRow_setCell_below (a:=⟨w.heap.size+1,0,none⟩) y (DV _) (.int .i64 op)) (DV _) (.slice z (0+c.length) t)
    have h1:=Joins.ownsRow_le K (show w.heap.size<=w.heap.size+2 by omega);simpa using h1
   ·have R:=(Below.refl W.heap.size W).drew.grown f (CG _) (λk hk=>by simp[Value.ownBlock] at hk)
    have H:=C.trans (R.mono yGa);exact(H.setCell AU _).setCell AU _
theorem PN (w:World)(r:Option Nat):w.grownBy w r:=⟨rfl,rfl,rfl,CG _,λ_ _ _=>rfl⟩
theorem Ry {o:Oper}{w:World}{K:Act->World->Prop}{Q:Exit->Act->World->Prop}
  (hg:o.guard=none) (s x:Operand) (q:o.op=.call {callee:=.builtin .append,args:=#[s,x],argTypes:=#[49,49]})
  (base:Nat) (N:Nat) (c:List Stil.CC) (j:a.eval s=.slice (some ⟨N,0,none⟩) 0 0) (C:w.ownsRow base 55 3 (.slice (some ⟨N,0,none⟩) 0 0) 0 [])
  (k:Option Addr) (d:Nat) (hx:a.eval x=.slice k c.length d) (S:Dk w (.slice k c.length d) c) (hl:c.length<=1048576) (U:base<=w.heap.size)
  (u:∀f w',w'.ownsRow base 55 3 f c.length (Au c)->w.grownBy w' (some N)->K (a.put o.dst f) w'):
  if Region.wanted o (yielded ops a.tmps)=true then Oper.wp prog o a w K Q else E:=by
 obtain⟨L,hi,I,R,G⟩:=info_parts QC;by_cases hd:c.length=0
 ·have D:=List.length_eq_zero_iff.1 hd
  subst D;have J:Region.wanted o (yielded ops a.tmps)=true:=by simp[Region.wanted,hg]
  rw[if_pos J];have y:=u _ w C (PN _ _);unfold Oper.wp execOp;cases k
  ·have e:Sem.run prog (Builtin.append_ #[49,49] o.type #[.slice (some ⟨N,0,none⟩) 0 0, .slice none 0 d]) w=.ok (.slice (some ⟨N,0,none⟩) 0 0) w:=by simp[Builtin.append_,go_sem]
   simp only[q,resolve,invoke,builtin,Sem.run_bind,Sem.run_pure,Result.andThen_ok,EL,CP,C3,j,hx,CO,e];exact y
  ·rename_i H
   have e:Sem.run prog (Builtin.append_ #[49,49] o.type #[.slice (some ⟨N,0,none⟩) 0 0, .slice (some H) 0 d]) w=.ok (.slice (some ⟨N,0,none⟩) 0 0) w:=by simp[Builtin.append_,go_sem]
   simp only[q,resolve,invoke,builtin,Sem.run_bind,Sem.run_pure,Result.andThen_ok,EL,CP,C3,j,hx,CO,e];exact y
 ·obtain⟨a1,V,z,A⟩:=S
  simp only[Value.slice.injEq] at z;obtain⟨rfl,_,rfl⟩:=z;obtain⟨b,M,rfl,aa,_⟩:=A 0 AQ;have O:∀i (h:i<c.length),Jg w b (M+i*3) c[i]:=by
   intro i h;obtain⟨b1,o2,t,_,g⟩:=A i h;simp only[CZ,Addr.mk.injEq,E0] at t;obtain⟨rfl,rfl⟩:=t;exact g
  refine Eh hg s x _ q base 55 L _ 3 24 underlying49 hi I R G rfl AY _ 0 [] j C _ _ _ (Au c) hx (Ku c) (TD O) (Wy c) A6 AQ U ?_;intro f w' g T _;rw[CV,C5] at g;exact u f w' g T
