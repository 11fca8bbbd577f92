import Derived.Test.YtobbpffcggchmaaGreatDoorGT
import Derived.Maps.AppendAt
import Derived.Deep.RegionLaw
import Derived.Test.YtobbpffcggchmaaGreatDoorCI3
import Derived.Test.YtobbpffcggchmaaGreatDoorGJ
import Derived.Test.YtobbpffcggchmaaGreatDoorGO
import Derived.Test.YtobbpffcggchmaaGreatDoorGU
import Derived.Test.YtobbpffcggchmaaGreatDoorFRe
namespace Go.Proofs.YtobbpffcggchmaaGreatDoor
open Tryz
open Go.RowKit Go.Sort Go.BigFrame
variable {E:Prop}{a:Act}{o:Nat}{ops:Array Oper}{r:Option Nat}{w':World}
theorem Eo {P:Program}{o:Oper}{w:World}{K:Act->World->Prop}{Q:Exit->Act->World->Prop}
  (hg:o.guard=none) (s x:Operand) (t:TypeId) (q:o.op=.call {callee:=.builtin .append,args:=#[s,x],argTypes:=#[t,t]})
  (base:Nat) (e:TypeId) (i:TypeInfo) (z:Value) (size bytes:Nat) (f:P.underlying t=some (.slice e)) (hi:P.info? e=some i) (F:i.zero=some z)
  (B:i.size=size) (p:i.bytes=bytes) (h:z.cells.size=size) (l:0<size)
  (v:Value) (n:Nat) (xs:List Value) (G:a.eval s=v) (d:w.ownsRow base e size v n xs)
  (ad:Addr) (m c:Nat) (news:List Value) (hx:a.eval x=.slice (some ad) m c) (hl:news.length=m*size) (D:∀j u,news[j]?=some u->w.cell? (ad.add j)=some u) (h1:∀u∈news,u.oneCell'=true)
  (g:n+m<=maxLen) (H:(n+m)*bytes<=140737488355328) (C:base<=w.heap.size)
  (I:∀b w',w'.ownsRow base e size b (n+m) (xs++news)->w.grownBy w' v.ownBlock->(b.ownBlock=v.ownBlock\/b.ownBlock=some w.heap.size)->K (a.put o.dst b) w'):
  if Region.wanted o (yielded ops a.tmps)=true then Oper.wp P o a w K Q else E:=by
 have A:Region.wanted o (yielded ops a.tmps)=true:=by simp[Region.wanted,hg]
 rw[if_pos A];obtain⟨b,w',k,y,L,M,J⟩:=run_append_own_at (P:=P) w base t o.type e i z size bytes f hi F B p h l v n xs d ad m c news hl D h1 g H C;unfold Oper.wp execOp;simp only[q,resolve,invoke,builtin,Sem.run_bind,Sem.run_pure,Result.andThen_ok,Bad,A9l,A97,G,hx,k];exact I b w' y L J
theorem Aal {w:World}{b:Nat}{c:List Stil.Dev}(h:∀i (h:i<c.length),Io w b (o+i*3) c[i]):∀j u,(Am c)[j]?=some u->w.cell? ((⟨b,o,none⟩:Addr).add j)=some u:=by
 intro j u hu;have t:=(List.getElem?_eq_some_iff.1 hu).1;have y:(Am c).length=c.length*3:=by
  clear hu t h;induction c with
  | nil=>rfl
  | cons d r x=>have e:Am (d::r)=.int .i64 d.kind::.int .i64 d.n::.int .i64 d.p::Am r:=rfl;rw[e];simp[x];omega
 have hi:j / 3<c.length:=omz
 obtain⟨g,l,k⟩:=L6 c (j / 3) hi;obtain⟨q,s,v⟩:=h (j / 3) hi;rw[Addr.add_lit];have m:j=j / 3*3\/j=j / 3*3+1\/j=j / 3*3+2:=omz
 rcases m with e | e | e
 ·rw[e] at hu
  rw[hu] at g;have f:o+j=o+j / 3*3:=omz
  rw[f,q];exact g.symm
 ·rw[e] at hu
  rw[hu] at l;have f:o+j=o+j / 3*3+1:=omz
  rw[f,s];exact l.symm
 ·rw[e] at hu
  rw[hu] at k;have f:o+j=o+j / 3*3+2:=omz
  rw[f,v];exact k.symm
theorem A8 {w:World}{b:Nat}(h:w.grownBy w' r)(c:b<w.heap.size)(d:r≠some b):w'.cell? ⟨b,o,none⟩=w.cell? ⟨b,o,none⟩:=by
 simp only[World.cell?,h.block b c (λe=>d e.symm)]
theorem Fa {w:World}{b:Nat}(h:w.grownBy w' r)(c:b<w.heap.size)(d:r≠some b):w'.frozen? ⟨b,o,none⟩=w.frozen? ⟨b,o,none⟩:=by
 simp only[World.frozen?,h.block b c (λe=>d e.symm)]
theorem Ac {w:World}{base s n:Nat}{e:TypeId}{v:Value}{xs:List Value}(h:w.ownsRow base e s v n xs):∃a cap,v=.slice a n cap:=by
 rcases h.2 with⟨b,d⟩ | ⟨g,c,cur,b,_⟩
 ·exact⟨none,0,by rw[b,d]⟩
 ·exact⟨_,_,b⟩
set_option maxHeartbeats 1000000 in
set_option maxRecDepth 100000 in
theorem Oc (op:Int)(v:Value)(c:List Stil.Dev)(w:World)(N:A7 w v c)(hl:c.length<=1048576):
  Calls prog 76 #[.agg #[.int .i64 op,v]] w λe w'=>∃u,e=.returned (.agg #[.int .i64 op,u])/\w'.ownsRow w.heap.size 34 3 u c.length (Am c)/\Below w.heap.size w w':=by
 obtain⟨Q,hi,I,R,S⟩:=info_parts Ai2;obtain⟨a,cap,rfl,l⟩:=N;by_cases hd:c.length=0
 ·obtain rfl:c=[]:=List.length_eq_zero_iff.1 hd
  clear l;have C:∀W:World,W.ownsRow w.heap.size 34 3 (.slice none 0 0) 0 []:=λW=>⟨rfl,Or.inl ⟨rfl,rfl⟩⟩
  cases a;all_goals
   go_enter func76,ntmps76
   go_upto_region 1 with fail
   go_region
   all_goals go_wp2
   all_goals exact bodyPost_ret (v:=.agg #[.int .i64 op, .slice none 0 0]) (by simp[results,results76,go_sem]) rfl ⟨_,rfl,C _,blA⟩
 ·obtain⟨b,o,rfl,D,_⟩:=l 0 omz
  have t:∀i (h:i<c.length),Io w b (o+i*3) c[i]:=by
   intro i h;obtain⟨Z,o1,s,_,h1⟩:=l i h;simp only[A96,Addr.mk.injEq,Bbx] at s;obtain⟨rfl,rfl⟩:=s;exact h1
  have A:Hid (∀W,Below w.heap.size w W->∀j u,(Am c)[j]?=some u->W.cell? ((⟨b,o,none⟩:Addr).add j)=some u):=by
   intro W d;exact Aal (λi h=>(t i h).below d D)
  clear l t;go_enter func76,ntmps76;obtain⟨W,d⟩:∃W,W=(w.alloc (.cells #[.int .i64 op, .slice (some ⟨b,o,none⟩) c.length cap] 27)).alloc (.cells #[.int .i64 0, .slice none 0 0] 27):=⟨_,rfl⟩
  have m:W.heap.size=w.heap.size+2:=by rw[d];simp
  have H:W.cell? ⟨w.heap.size,0,none⟩=some (.int .i64 op):=by rw[d];simp[go_sem]
  have q1:W.cell? ⟨w.heap.size,1,none⟩=some (.slice (some ⟨b,o,none⟩) c.length cap):=by rw[d];simp[go_sem]
  have F:W.cell? ⟨w.heap.size+1,0,none⟩=some (.int .i64 0):=by rw[d];simp[go_sem]
  have Y:W.cell? ⟨w.heap.size+1,1,none⟩=some (.slice none 0 0):=by rw[d];simp[go_sem]
  have J:W.frozen? ⟨w.heap.size+1,0,none⟩=false:=by rw[d];simp[go_sem]
  have T:W.frozen? ⟨w.heap.size+1,1,none⟩=false:=by rw[d];simp[go_sem]
  have y:Below w.heap.size w W:=by rw[d];exact Be (Aa _ _) _
  have q:=A W y;have G:=hid q;have dZ:=hid m;clear q;go_upto_region 1 with fail
  rw[<-d];clear d m A
  go_region_law (refine Eo rfl _ _ 25 rfl (w.heap.size+2) 34 Q (.agg #[.int .i64 0, .int .i64 0, .int .i64 0]) 3 24 underlying25 hi I R S rfl dcz (.slice none 0 0) 0 [] rfl ⟨rfl,Or.inl ⟨rfl,rfl⟩⟩ _ _ _ (Am c) rfl (Jy c) (by exact G.out) (Vp c) yAe omz (by have:=dZ.out;simp only[World.size_drew];omega) ?_;intro v' g z f mD;obtain⟨B,x,P⟩:=Ac z;subst P;have aa:w.heap.size+1<g.heap.size:=(by have h1:=dZ.out;have V:=f.size;simp at V;omega);have g0:g.cell? ⟨w.heap.size,0,none⟩=some (.int .i64 op):=(A8 f yCd yCj).trans (by simpa using H);have O:g.cell? ⟨w.heap.size+1,0,none⟩=some (.int .i64 0):=(A8 f yCd yCj).trans (by simpa using F);have U:g.cell? ⟨w.heap.size+1,1,none⟩=some (.slice none 0 0):=(A8 f yCd yCj).trans (by simpa using Y);have y2:g.frozen? ⟨w.heap.size+1,0,none⟩=false:=(Fa f yCd yCj).trans (by simpa using J);have y3:g.frozen? ⟨w.heap.size+1,1,none⟩=false:=(Fa f yCd yCj).trans (by simpa using T))
  all_goals go_wp2
  all_goals
   refine bodyPost_ret (v:=.agg #[.int .i64 op, .slice B (0+c.length) x]) (by simp[results,results76,go_sem,O,U]) rfl ⟨_,rfl,?_,?_⟩
   ·have K:=ownsRow_setCell_below (a:=⟨w.heap.size+1,1,none⟩) (ownsRow_setCell_below (a:=⟨w.heap.size+1,0,none⟩) z (Baa _) (.int .i64 op)) (Baa _) (.slice B (0+c.length) x)
    have h1:=Joins.ownsRow_le K (show w.heap.size<=w.heap.size+2 by omega);simpa using h1
   ·have L:=(Below.refl W.heap.size W).drew.grown f (A88 _) (λk X=>by simp[Value.ownBlock] at X)
    have M:=y.trans (L.mono (by have:=dZ.out;omega));exact(M.setCell spz _).setCell spz _
theorem Aez (w:World)(r:Option Nat):w.grownBy w r:=⟨rfl,rfl,rfl,A88 _,λ_ _ _=>rfl⟩
theorem Acv {o:Oper}{w:World}{K:Act->World->Prop}{Q:Exit->Act->World->Prop}
  (hg:o.guard=none) (s x:Operand) (k:o.op=.call {callee:=.builtin .append,args:=#[s,x],argTypes:=#[25,25]})
  (base:Nat) (N:Nat) (c:List Stil.Dev) (l:a.eval s=.slice (some ⟨N,0,none⟩) 0 0) (m:w.ownsRow base 34 3 (.slice (some ⟨N,0,none⟩) 0 0) 0 [])
  (j:Option Addr) (f:Nat) (hx:a.eval x=.slice j c.length f) (B:A7 w (.slice j c.length f) c) (hl:c.length<=1048576) (I:base<=w.heap.size)
  (t:∀d w',w'.ownsRow base 34 3 d c.length (Am c)->w.grownBy w' (some N)->K (a.put o.dst d) w'):
  if Region.wanted o (yielded ops a.tmps)=true then Oper.wp prog o a w K Q else E:=by
 obtain⟨C,hi,y,D,F⟩:=info_parts Ai2;by_cases hd:c.length=0
 ·have J:=List.length_eq_zero_iff.1 hd
  subst J;have G:Region.wanted o (yielded ops a.tmps)=true:=by simp[Region.wanted,hg]
  rw[if_pos G];have v:=t _ w m (Aez _ _);unfold Oper.wp execOp;cases j
  ·have e:Sem.run prog (Builtin.append_ #[25,25] o.type #[.slice (some ⟨N,0,none⟩) 0 0, .slice none 0 f]) w=.ok (.slice (some ⟨N,0,none⟩) 0 0) w:=by simp[Builtin.append_,go_sem]
   simp only[k,resolve,invoke,builtin,Sem.run_bind,Sem.run_pure,Result.andThen_ok,Bad,A9l,A97,l,hx,A85,e];exact v
  ·rename_i L
   have e:Sem.run prog (Builtin.append_ #[25,25] o.type #[.slice (some ⟨N,0,none⟩) 0 0, .slice (some L) 0 f]) w=.ok (.slice (some ⟨N,0,none⟩) 0 0) w:=by simp[Builtin.append_,go_sem]
   simp only[k,resolve,invoke,builtin,Sem.run_bind,Sem.run_pure,Result.andThen_ok,Bad,A9l,A97,l,hx,A85,e];exact v
 ·obtain⟨P,R,u,n⟩:=B
  simp only[Value.slice.injEq] at u;obtain⟨rfl,_,rfl⟩:=u;obtain⟨b,A,rfl,M,_⟩:=n 0 omz;have z:∀i (h:i<c.length),Io w b (A+i*3) c[i]:=by
   intro i h;obtain⟨O,S,q,_,g⟩:=n i h;simp only[A96,Addr.mk.injEq,Bbx] at q;obtain⟨rfl,rfl⟩:=q;exact g
  refine Eo hg s x _ k base 34 C _ 3 24 underlying25 hi y D F rfl dcz _ 0 [] l m _ _ _ (Am c) hx (Jy c) (Aal z) (Vp c) yAe omz I ?_;intro d w' g H _;rw[A9c,A9u] at g;exact t d w' g H
end Go.Proofs.YtobbpffcggchmaaGreatDoor
namespace Stil
structure F7 where
 code:Int
 one:Elem
def F7.fits (i:F7):Prop:=i64 i.code/\i.one.fits
def listWords:List (List UInt8):=[[],[108,100],[97,110,100],[111,114],[97,110,98],[111,114,98],[105,110,118],[109,112,115],[109,114,100],[109,112,112],[99,111,105,108],[101,110,100]]
def A7b (e:Elem):Bool:=e.op==0 && e.args.length==0
def Hu (i:F7):Bool:=if i.code<1\/11<i.code then false else if i.code<=3 then Af i.one.op i.one.args else if i.code=10 then Ar i.one.op i.one.args else A7b i.one
def needs (c:Int):Int:=if c=1 then 0 else if c=4\/c=5 then 2 else 1
theorem Aiv {i:F7}(h:Hu i=true):1<=i.code/\i.code<=11:=by
 unfold Hu at h;split at h
 ·cases h
 ·omega
def step (s:Int × Int)(c:Int):Int × Int:=(if c=1 then s.1+1 else if c=4\/c=5\/c=11 then s.1 - 1 else s.1,if c=7 then s.2+1 else if c=9 then s.2 - 1 else s.2)
def Rn:Int × Int->List F7->List (Int × Int)
 | _,[]=>[]
 | s,i::r=>step s i.code::Rn (step s i.code) r
def Va:Int × Int->List (Int × Int)->Int × Int
 | p,[]=>p
 | p,s::r=>Va (if p.1<s.1 then s.1 else p.1,if p.2<s.2 then s.2 else p.2) r
def Axy (p s:Int × Int):Int × Int:=(if p.1<s.1 then s.1 else p.1,if p.2<s.2 then s.2 else p.2)
end Stil
namespace Go.Proofs.YtobbpffcggchmaaGreatDoor
open Tryz
open Go.RowKit Go.Sort Go.BigFrame
def Aie (w:World)(b o:Nat)(i:Stil.F7):Prop:=w.cell? ⟨b,o,none⟩=some (.int .i64 i.code)/\w.cell? ⟨b,o+1,none⟩=some (.int .i64 i.one.op)/\∃c,w.cell? ⟨b,o+2,none⟩=some c/\A7 w c i.one.args
def Ja (w:World)(v:Value)(l:List Stil.F7):Prop:=∃a cap,v=.slice a l.length cap/\∀i (h:i<l.length),∃b o,a=some ⟨b,o,none⟩/\b<w.heap.size/\Aie w b (o+i*3) l[i]
theorem Aie.below {w w':World}{b o:Nat}{i:Stil.F7}(h:Aie w b o i)(c:Below w.heap.size w w')(d:b<w.heap.size):Aie w' b o i:=by
 obtain⟨g,k,e,j,f⟩:=h;exact⟨by rw[c.cell (p:=⟨b,o,none⟩) d];exact g,by rw[c.cell (p:=⟨b,o+1,none⟩) d];exact k,e,by rw[c.cell (p:=⟨b,o+2,none⟩) d];exact j,f.below c⟩
theorem Ja.below {w w':World}{v:Value}{l:List Stil.F7}(h:Ja w v l)(d:Below w.heap.size w w'):Ja w' v l:=by
 obtain⟨a,cap,f,j⟩:=h;refine⟨a,cap,f,λi hi=>?_⟩;obtain⟨b,o,e,c,g⟩:=j i hi;exact⟨b,o,e,A82 c d.size,g.below d c⟩
def A3q (lo:Nat)(w:World)(b o:Nat)(i:Stil.F7):Prop:=w.cell? ⟨b,o,none⟩=some (.int .i64 i.code)/\w.cell? ⟨b,o+1,none⟩=some (.int .i64 i.one.op)/\∃c,w.cell? ⟨b,o+2,none⟩=some c/\I5 lo w c i.one.args
def Afr (lo:Nat)(w:World)(v:Value)(l:List Stil.F7):Prop:=∃a cap,v=.slice a l.length cap/\∀i (h:i<l.length),∃b o,a=some ⟨b,o,none⟩/\lo<=b/\b<w.heap.size/\A3q lo w b (o+i*3) l[i]
theorem Afr.at {lo:Nat}{w:World}{v:Value}{l:List Stil.F7}(h:Afr lo w v l):Ja w v l:=by
 obtain⟨a,cap,j,f⟩:=h;refine⟨a,cap,j,λi hi=>?_⟩;obtain⟨b,o,d,p,k,m,e,c,n,g⟩:=f i hi;exact⟨b,o,d,k,m,e,c,n,g.at⟩
end Go.Proofs.YtobbpffcggchmaaGreatDoor
set_option maxHeartbeats 4000000
set_option maxRecDepth 100000
namespace Go.Proofs.YtobbpffcggchmaaGreatDoor
open Tryz
open Go.RowKit Go.Sort Go.BigFrame
def Jb (w:World):Prop:=1<w.heap.size/\∀k:Nat,k<12->w.cell? ⟨1,k,none⟩=some (.string ⟨(Stil.listWords.getD k []).toArray⟩)
theorem Jb.below {w w':World}(h:Jb w)(b:Below w.heap.size w w'):Jb w':=
 ⟨A82 h.1 b.size,λk c=>by rw[b.cell (p:=⟨1,k,none⟩) h.1];exact h.2 k c⟩
theorem Ai6 (c:Int)(w:World)(h:c<0\/12<=c):
  Calls prog 74 #[.int .i64 c] w λe w'=>e=.returned (.string ⟨#[]⟩)/\w'=w:=by
 go_enter func74,ntmps74
 go_wp2
 all_goals first | (exfalso;omega) | (go_ret;exact⟨rfl,rfl⟩)
theorem Atm (k:Nat)(w:World)(c:Jb w)(h:k<12):
  Calls prog 74 #[.int .i64 k] w λe w'=>e=.returned (.string ⟨(Stil.listWords.getD k []).toArray⟩)/\w'=w:=by
 have d:=c.2 k h;obtain⟨s,b⟩:∃s:ByteArray,s=⟨(Stil.listWords.getD k []).toArray⟩:=⟨_,rfl⟩
 rw[<-b] at d ⊢;clear b c;go_enter func74,ntmps74
 go_wp2
 go_ret;exact⟨rfl,rfl⟩
theorem Alr:(prog.info? 27).map (λi=>(i.zero,i.size,i.bytes))=some (some (.agg #[.int .i64 0, .slice none 0 0]),2,32):=krz
theorem Ai3:(prog.info? 30).map (λi=>(i.zero,i.size,i.bytes))=some (some (.agg #[.int .i64 0, .int .i64 0, .slice none 0 0, .slice none 0 0]),4,64):=krz
theorem A2w:(prog.info? 38).map (λi=>(i.zero,i.size,i.bytes))=some (some (.agg #[.int .i64 0, .int .i64 0, .slice none 0 0, .slice none 0 0, .slice none 0 0, .slice none 0 0]),6,112):=krz
open Go.ChangeShapes Go.WideShapes Go.ChangeAt
theorem Azm:prog.globalNamed "loop.example/stilway/impl.listWords" =some 1:=krz
theorem Ao3:(prog.globals[1]?).map (·.type)=some 153:=krz
theorem Agd {W:World}{l:List (String × DataW Unit)}(h:laidMet prog l W)(A:("loop.example/stilway/impl.listWords",DataW.agg (Stil.listWords.map λx=>DataW.lit (Lit.string x)))∈l):Jb W:=by
 obtain⟨K,f,_,_⟩:=h;obtain⟨g,t,L,fuel,p,G,B,I,z⟩:=Aon f A;obtain rfl:=A98 (Azm.symm.trans G);obtain rfl:=A98 (Ao3.symm.trans B);have C:=λj=>World.var?_cell Azm I j
 obtain⟨b,m,_,u,J,f,v⟩:=DataW.trod_array underlying153 z;have y:(Stil.listWords.map λx=>DataW.lit (H:=Unit) (Lit.string x))=b.map (·.1):=DataW.agg.inj (Bbs u).1;have i:∀k:Nat,k<12->W.cell? ⟨1,k,none⟩=some (.string ⟨(Stil.listWords.getD k []).toArray⟩):=by
  intro k q;have d:k<b.length:=omz
  have n:=v k q;rw[A0h,A9k d,Nat.mul_one] at n;obtain⟨s,w,D,_⟩:=DataW.trod_string underlying9 n;have e:k<Stil.listWords.length:=q;have c:b[k].1=.lit (.string (Stil.listWords.getD k [])):=by
   have:=congrArg (λl=>l[k]?) y
   simp only[Bbm,A9k d,Bbt] at this;rw[A9k e] at this;rw[<-A98 this,List.getD,A9k e];rfl
  rw[D] at c;simp only[DataW.lit.injEq,Lit.string.injEq] at c;have F:s=⟨(Stil.listWords.getD k []).toArray⟩:=Arv (by rw[c]);rw[C,<-F];have:=congrArg (λl=>l[0]?) w
  simpa[Ba4,Ba5] using this
 exact⟨lt_of_cell (i 0 omz),i⟩
abbrev Pl:=Nat × Nat
def ad (p:Pl):Addr:=⟨p.1,p.2,none⟩
def Aic (w:World)(b:List Pl):Prop:=∀p∈b,p.1<w.heap.size/\(∃n,w.cell? (ad p)=some (.int .i64 n))/\w.frozen? (ad p)=false
def Anc (v:Value)(c:List Pl):Prop:=∃a n cap,v=.slice a n cap/\c.length=3*n/\∀j (h:j<c.length),∃b o,a=some ⟨b,o,none⟩/\c[j]=(b,o+j)
def Ou (b:Nat):Nat->List (List Pl)->List Pl
 | _,[]=>[]
 | o,q::r=>(b,o)::(b,o+1)::(q++Ou b (o+3) r)
def A0p (w:World)(v:Value)(b o:Nat)(qs:List (List Pl)):Prop:=(∃a cap,v=.slice a qs.length cap/\(0<qs.length->a=some ⟨b,o,none⟩))/\
 ∀i (h:i<qs.length),b<w.heap.size/\(b,o+i*3+2)∉Ou b o qs/\∃c,w.cell? ⟨b,o+i*3+2,none⟩=some c/\Anc c qs[i]
def Za (g n:Nat):List Pl:=(List.range (3*n)).map λj=>(g,j)
theorem Afg (g n:Nat):(Za g n).length=3*n:=by simp[Za]
theorem Aff {g n:Nat}{p:Pl}(h:p∈Za g n):p.1=g/\p.2<3*n:=by
 obtain⟨j,b,rfl⟩:=List.mem_map.1 h;exact⟨rfl,List.mem_range.1 b⟩
theorem Aj5 (g n:Nat):(Za g n).Nodup:=by
 unfold Za;refine List.pairwise_map.2 (List.Pairwise.imp ?_ List.nodup_range);intro a b h e;exact h (Bbs e).2
theorem Apa {w:World}{base:Nat}{u:Value}{d:List Stil.Dev}(h:w.ownsRow base 34 3 u d.length (Am d)):
  ∃f:List Pl,Anc u f/\Aic w f/\f.Nodup/\(∀p∈f,base<=p.1/\u.ownBlock=some p.1)/\f.length=3*d.length:=by
 by_cases hd:d.length=0
 ·have z:=List.length_eq_zero_iff.1 hd
  subst z;obtain⟨a,cap,rfl⟩:=Ac h;exact⟨[],⟨a,0,cap,rfl,rfl,λj l=>absurd l spz⟩,(λp c=>by cases c),Bcd,(λp c=>by cases c),rfl⟩
 ·obtain⟨g,cap,y,x,n,_,k⟩:=Cf h omz
  subst y;refine⟨Za g d.length,⟨_,_,_,rfl,Afg _ _,λj l=>⟨g,0,rfl,by simp[Za]⟩⟩,λp c=>?_,Aj5 _ _,λp c=>?_,Afg _ _⟩
  ·obtain⟨i,v⟩:=Aff c
   obtain⟨b,j⟩:=p;simp only at i v;subst i;refine⟨n,?_,h.frozenAt _⟩;have hi:j / 3<d.length:=omz
   obtain⟨m,t,s⟩:=L6 d (j / 3) hi;have q:j=j / 3*3\/j=j / 3*3+1\/j=j / 3*3+2:=omz
   rcases q with e | e | e
   ·exact⟨_,by rw[ad,e];exact k _ _ m⟩
   ·exact⟨_,by rw[ad,e];exact k _ _ t⟩
   ·exact⟨_,by rw[ad,e];exact k _ _ s⟩
  ·obtain⟨i,_⟩:=Aff c
   rw[i];exact⟨x,rfl⟩
theorem Um (b:Nat):∀(c:List (List Pl)) (o:Nat) (p:Pl),p∈Ou b o c->(∃i,i<c.length/\(p=(b,o+i*3)\/p=(b,o+i*3+1)))\/∃q∈c,p∈q
 | [],_,p,h=>by simp[Ou] at h
 | q::r,o,p,h=>by
  rw[Ou] at h;simp only[A9o,A9g] at h;rcases h with h | h | h | h
  ·exact .inl ⟨0,spz, .inl yBc⟩
  ·exact .inl ⟨0,spz, .inr yBc⟩
  ·exact .inr ⟨q,spz,h⟩
  ·rcases Um b r (o+3) p h with⟨i,hi,d⟩ | ⟨f,g,d⟩
   ·refine .inl ⟨i+1,by simp;omega,?_⟩
    have e:o+3+i*3=o+(i+1)*3:=omz
    rwa [e] at d
   ·exact .inr ⟨f,A87 _ g,d⟩
theorem zy0 {p:Prop}(h:p:=by
 subst hp
 refine⟨λe=>?_,λe=>?_,λe=>hq2 _ e rfl⟩
 ·have:=(Bbs e).2;omega
 ·have:=(Bbs e).2;omega):p:=h
theorem Aca (b:Nat):∀(f:List (List Pl)) (o:Nat),(∀q∈f,q.Nodup/\∀p∈q,p.1≠b)->f.Pairwise (λq r=>∀p∈q,p∉r)->(Ou b o f).Nodup
 | [],_,_,_=>Bcd
 | q::r,o,j,l=>by
  have s:=Aca b r (o+3) (λx d=>j x (A87 _ d)) (List.pairwise_cons.1 l).2;obtain⟨t,hq2⟩:=j q spz;have g:∀p∈Ou b (o+3) r,p≠(b,o)/\p≠(b,o+1)/\p∉q:=by
   intro p hp;rcases Um b r (o+3) p hp with⟨i,_,hp | hp⟩ | ⟨x,d,hp⟩
   ·exact zy0
   ·exact zy0
   ·have k:=(j x (A87 _ d)).2 p hp
    exact⟨λe=>k (by rw[e]),λe=>k (by rw[e]),λe=>(List.pairwise_cons.1 l).1 x d p e hp⟩
  rw[Ou,List.nodup_cons,List.nodup_cons,A94];refine⟨?_,?_,t,s,λa m c n e=>(g c n).2.2 (e ▸ m)⟩
  ·simp only[A9o,A9g,not_or]
   exact⟨λe=>by have:=(Bbs e).2;omega,λe=>hq2 _ e rfl,λe=>(g _ e).1 rfl⟩
  ·simp only[A9g,not_or]
   exact⟨λe=>hq2 _ e rfl,λe=>(g _ e).2.1 rfl⟩
theorem Aor {b o i:Nat}{qs:List (List Pl)}(h:∀q∈qs,∀p∈q,p.1≠b):(b,o+i*3+2)∉Ou b o qs:=by
 intro d;rcases Um b qs o _ d with⟨j,_,c | c⟩ | ⟨q,e,c⟩
 ·have:=(Bbs c).2;omega
 ·have:=(Bbs c).2;omega
 ·exact h q e _ c rfl
theorem Aoq {w:World}{b cap:Nat}{l:List Stil.F7}{qs:List (List Pl)}(e:b<w.heap.size)(hl:qs.length=l.length)
  (h:∀i (h:i<l.length),w.cell? ⟨b,i*3,none⟩=some (.int .i64 l[i].code)/\w.cell? ⟨b,i*3+1,none⟩=some (.int .i64 l[i].one.op)/\∃u,w.cell? ⟨b,i*3+2,none⟩=some u/\Anc u (qs[i]'omz)/\A7 w u l[i].one.args)
  (k:∀o,w.frozen? ⟨b,o,none⟩=false) (d:∀q∈qs,Aic w q/\q.Nodup/\∀p∈q,p.1≠b) (hd:qs.Pairwise (λq r=>∀p∈q,p∉r)):
  A0p w (.slice (some ⟨b,0,none⟩) l.length cap) b 0 qs/\Aic w (Ou b 0 qs)/\(Ou b 0 qs).Nodup/\Ja w (.slice (some ⟨b,0,none⟩) l.length cap) l:=by
 refine⟨⟨⟨_,cap,by rw[hl],λ_=>rfl⟩,λi hi=>?_⟩,λp c=>?_,Aca b qs 0 (λq h=>⟨(d q h).2.1,(d q h).2.2⟩) hd,⟨_,cap,rfl,λi hi=>?_⟩⟩
 ·obtain⟨_,_,u,j,m,_⟩:=h i omz
  exact⟨e,Aor (λq h=>(d q h).2.2),u,by rw[A9c];exact j,m⟩
 ·rcases Um b qs 0 p c with⟨i,hi,c | c⟩ | ⟨q,n,c⟩
  ·subst c
   obtain⟨g,_⟩:=h i omz;exact⟨e,⟨_,by rw[ad];simp only[A9c];exact g⟩,k _⟩
  ·subst c
   obtain⟨_,f,_⟩:=h i omz;exact⟨e,⟨_,by rw[ad];simp only[A9c];exact f⟩,k _⟩
  ·exact(d q n).1 p c
 ·obtain⟨g,f,u,j,_,s⟩:=h i hi
  exact⟨b,0,rfl,e,by rw[A9c];exact g,by rw[A9c];exact f,u,by rw[A9c];exact j,s⟩
end Go.Proofs.YtobbpffcggchmaaGreatDoor
