import Derived.Test.YtnpfcnolmkanfaaGreatDoorGT
import Derived.Maps.AppendAt
import Derived.Deep.RegionLaw
import Derived.Test.YtnpfcnolmkanfaaGreatDoorGM
import Derived.Test.YtnpfcnolmkanfaaGreatDoorHg
namespace Go.Proofs.YtnpfcnolmkanfaaGreatDoor
open Tryz
open Go.RowKit Go.Sort Go.BigFrame
variable {E:Prop}{a:Act}{o:Nat}{ops:Array Oper}{r:Option Nat}{w':World}
theorem Eb {P:Program}{o:Oper}{w:World}{K:Act->World->Prop}{Q:Exit->Act->World->Prop}
  (hg:o.guard=none) (s x:Operand) (t:TypeId) (G:o.op=.call {callee:=.builtin .append,args:=#[s,x],argTypes:=#[t,t]})
  (base:Nat) (e:TypeId) (i:TypeInfo) (z:Value) (size bytes:Nat) (F:P.underlying t=some (.slice e)) (hi:P.info? e=some i) (D:i.zero=some z)
  (C:i.size=size) (d:i.bytes=bytes) (I:z.cells.size=size) (g:0<size)
  (v:Value) (n:Nat) (xs:List Value) (p:a.eval s=v) (f:w.ownsRow base e size v n xs)
  (ad:Addr) (m c:Nat) (news:List Value) (hx:a.eval x=.slice (some ad) m c) (hl:news.length=m*size) (B:∀j u,news[j]?=some u->w.cell? (ad.add j)=some u) (h1:∀u∈news,u.oneCell'=true)
  (A:n+m<=maxLen) (k:(n+m)*bytes<=140737488355328) (l:base<=w.heap.size)
  (h:∀b w',w'.ownsRow base e size b (n+m) (xs++news)->w.grownBy w' v.ownBlock->(b.ownBlock=v.ownBlock\/b.ownBlock=some w.heap.size)->K (a.put o.dst b) w'):
  if Region.wanted o (yielded ops a.tmps)=true then Oper.wp P o a w K Q else E:=by
 have y:Region.wanted o (yielded ops a.tmps)=true:=by simp[Region.wanted,hg]
 rw[if_pos y];obtain⟨b,w',q,L,J,M,H⟩:=run_append_own_at (P:=P) w base t o.type e i z size bytes F hi D C d I g v n xs f ad m c news hl B h1 A k l;unfold Oper.wp execOp;simp only[G,resolve,invoke,builtin,Sem.run_bind,Sem.run_pure,Result.andThen_ok,A7c,A6k,A66,p,hx,q];exact h b w' L J H
theorem Aay {w:World}{b:Nat}{c:List Stil.Dev}(h:∀i (h:i<c.length),Jc w b (o+i*3) c[i]):∀j u,(Be c)[j]?=some u->w.cell? ((⟨b,o,none⟩:Addr).add j)=some u:=by
 intro j u hu;have z:=(List.getElem?_eq_some_iff.1 hu).1;have A:(Be c).length=c.length*3:=by
  clear hu z h;induction c with
  | nil=>rfl
  | cons d r t=>have e:Be (d::r)=.int .i64 d.kind::.int .i64 d.n::.int .i64 d.p::Be r:=rfl;rw[e];simp[t];omega
 have hi:j / 3<c.length:=omz
 obtain⟨l,k,g⟩:=Lm c (j / 3) hi;obtain⟨y,q,s⟩:=h (j / 3) hi;rw[Addr.add_lit];have m:j=j / 3*3\/j=j / 3*3+1\/j=j / 3*3+2:=omz
 rcases m with e | e | e
 ·rw[e] at hu
  rw[hu] at l;have f:o+j=o+j / 3*3:=omz
  rw[f,y];exact l.symm
 ·rw[e] at hu
  rw[hu] at k;have f:o+j=o+j / 3*3+1:=omz
  rw[f,q];exact k.symm
 ·rw[e] at hu
  rw[hu] at g;have f:o+j=o+j / 3*3+2:=omz
  rw[f,s];exact g.symm
theorem Dj {w:World}{b:Nat}(h:w.grownBy w' r)(c:b<w.heap.size)(d:r≠some b):w'.cell? ⟨b,o,none⟩=w.cell? ⟨b,o,none⟩:=by
 simp only[World.cell?,h.block b c (λe=>d e.symm)]
theorem Ho {w:World}{b:Nat}(h:w.grownBy w' r)(c:b<w.heap.size)(d:r≠some b):w'.frozen? ⟨b,o,none⟩=w.frozen? ⟨b,o,none⟩:=by
 simp only[World.frozen?,h.block b c (λe=>d e.symm)]
theorem Aj {w:World}{base s n:Nat}{e:TypeId}{v:Value}{xs:List Value}(h:w.ownsRow base e s v n xs):∃a cap,v=.slice a n cap:=by
 rcases h.2 with⟨b,d⟩ | ⟨g,c,cur,b,_⟩
 ·exact⟨none,0,by rw[b,d]⟩
 ·exact⟨_,_,b⟩
set_option maxHeartbeats 1000000 in
set_option maxRecDepth 100000 in
theorem Ag7 (op:Int)(v:Value)(c:List Stil.Dev)(w:World)(J:Dh w v c)(hl:c.length<=1048576):
  Calls prog 68 #[.agg #[.int .i64 op,v]] w λe w'=>∃u,e=.returned (.agg #[.int .i64 op,u])/\w'.ownsRow w.heap.size 92 3 u c.length (Be c)/\Below w.heap.size w w':=by
 obtain⟨Q,hi,U,L,Y⟩:=info_parts Aif;obtain⟨a,cap,rfl,l⟩:=J;by_cases hd:c.length=0
 ·obtain rfl:c=[]:=List.length_eq_zero_iff.1 hd
  clear l;have D:∀W:World,W.ownsRow w.heap.size 92 3 (.slice none 0 0) 0 []:=λW=>⟨rfl,Or.inl ⟨rfl,rfl⟩⟩
  cases a;all_goals
   go_enter func68,ntmps68
   go_upto_region 1 with fail
   go_region
   all_goals go_wp2
   all_goals exact bodyPost_ret (v:=.agg #[.int .i64 op, .slice none 0 0]) (by simp[results,results68,go_sem]) rfl ⟨_,rfl,D _,blA⟩
 ·obtain⟨b,o,rfl,V,_⟩:=l 0 omz
  have y:∀i (h:i<c.length),Jc w b (o+i*3) c[i]:=by
   intro i h;obtain⟨b1,o1,A,_,h1⟩:=l i h;simp only[A65,Addr.mk.injEq,A8u] at A;obtain⟨rfl,rfl⟩:=A;exact h1
  have z:Hid (∀W,Below w.heap.size w W->∀j u,(Be c)[j]?=some u->W.cell? ((⟨b,o,none⟩:Addr).add j)=some u):=by
   intro W d;exact Aay (λi h=>(y i h).below d V)
  clear l y;go_enter func68,ntmps68;obtain⟨W,d⟩:∃W,W=(w.alloc (.cells #[.int .i64 op, .slice (some ⟨b,o,none⟩) c.length cap] 40)).alloc (.cells #[.int .i64 0, .slice none 0 0] 40):=⟨_,rfl⟩
  have s:W.heap.size=w.heap.size+2:=by rw[d];simp
  have P:W.cell? ⟨w.heap.size,0,none⟩=some (.int .i64 op):=by rw[d];simp[go_sem]
  have q1:W.cell? ⟨w.heap.size,1,none⟩=some (.slice (some ⟨b,o,none⟩) c.length cap):=by rw[d];simp[go_sem]
  have K:W.cell? ⟨w.heap.size+1,0,none⟩=some (.int .i64 0):=by rw[d];simp[go_sem]
  have N:W.cell? ⟨w.heap.size+1,1,none⟩=some (.slice none 0 0):=by rw[d];simp[go_sem]
  have M:W.frozen? ⟨w.heap.size+1,0,none⟩=false:=by rw[d];simp[go_sem]
  have O:W.frozen? ⟨w.heap.size+1,1,none⟩=false:=by rw[d];simp[go_sem]
  have B:Below w.heap.size w W:=by rw[d];exact Cc (Aa _ _) _
  have C:=z W B;have G:=hid C;have bP:=hid s;clear C;go_upto_region 1 with fail
  rw[<-d];clear d s z
  go_region_law (refine Eb rfl _ _ 38 rfl (w.heap.size+2) 92 Q (.agg #[.int .i64 0, .int .i64 0, .int .i64 0]) 3 24 underlying38 hi U L Y rfl dcz (.slice none 0 0) 0 [] rfl ⟨rfl,Or.inl ⟨rfl,rfl⟩⟩ _ _ _ (Be c) rfl (Jr c) (by exact G.out) (Vf c) yAe omz (by have:=bP.out;simp only[World.size_drew];omega) ?_;intro v' g q f aV;obtain⟨t,m,T⟩:=Aj q;subst T;have aa:w.heap.size+1<g.heap.size:=(by have h1:=bP.out;have Z:=f.size;simp at Z;omega);have g0:g.cell? ⟨w.heap.size,0,none⟩=some (.int .i64 op):=(Dj f yCh yDe).trans (by simpa using P);have X:g.cell? ⟨w.heap.size+1,0,none⟩=some (.int .i64 0):=(Dj f yCh yDe).trans (by simpa using K);have F:g.cell? ⟨w.heap.size+1,1,none⟩=some (.slice none 0 0):=(Dj f yCh yDe).trans (by simpa using N);have y2:g.frozen? ⟨w.heap.size+1,0,none⟩=false:=(Ho f yCh yDe).trans (by simpa using M);have y3:g.frozen? ⟨w.heap.size+1,1,none⟩=false:=(Ho f yCh yDe).trans (by simpa using O))
  all_goals go_wp2
  all_goals
   refine bodyPost_ret (v:=.agg #[.int .i64 op, .slice t (0+c.length) m]) (by simp[results,results68,go_sem,X,F]) rfl ⟨_,rfl,?_,?_⟩
   ·have H:=ownsRow_setCell_below (a:=⟨w.heap.size+1,1,none⟩) (ownsRow_setCell_below (a:=⟨w.heap.size+1,0,none⟩) q (A69 _) (.int .i64 op)) (A69 _) (.slice t (0+c.length) m)
    have h1:=Joins.ownsRow_le H (show w.heap.size<=w.heap.size+2 by omega);simpa using h1
   ·have S:=(Below.refl W.heap.size W).drew.grown f (A57 _) (λk I=>by simp[Value.ownBlock] at I)
    have R:=B.trans (S.mono (by have:=bP.out;omega));exact(R.setCell spz _).setCell spz _
theorem Aer (w:World)(r:Option Nat):w.grownBy w r:=⟨rfl,rfl,rfl,A57 _,λ_ _ _=>rfl⟩
theorem Vy {o:Oper}{w:World}{K:Act->World->Prop}{Q:Exit->Act->World->Prop}
  (hg:o.guard=none) (s x:Operand) (k:o.op=.call {callee:=.builtin .append,args:=#[s,x],argTypes:=#[38,38]})
  (base:Nat) (N:Nat) (c:List Stil.Dev) (j:a.eval s=.slice (some ⟨N,0,none⟩) 0 0) (m:w.ownsRow base 92 3 (.slice (some ⟨N,0,none⟩) 0 0) 0 [])
  (l:Option Addr) (g:Nat) (hx:a.eval x=.slice l c.length g) (C:Dh w (.slice l c.length g) c) (hl:c.length<=1048576) (B:base<=w.heap.size)
  (q:∀d w',w'.ownsRow base 92 3 d c.length (Be c)->w.grownBy w' (some N)->K (a.put o.dst d) w'):
  if Region.wanted o (yielded ops a.tmps)=true then Oper.wp prog o a w K Q else E:=by
 obtain⟨H,hi,M,F,O⟩:=info_parts Aif;by_cases hd:c.length=0
 ·have J:=List.length_eq_zero_iff.1 hd
  subst J;have D:Region.wanted o (yielded ops a.tmps)=true:=by simp[Region.wanted,hg]
  rw[if_pos D];have t:=q _ w m (Aer _ _);unfold Oper.wp execOp;cases l
  ·have e:Sem.run prog (Builtin.append_ #[38,38] o.type #[.slice (some ⟨N,0,none⟩) 0 0, .slice none 0 g]) w=.ok (.slice (some ⟨N,0,none⟩) 0 0) w:=by simp[Builtin.append_,go_sem]
   simp only[k,resolve,invoke,builtin,Sem.run_bind,Sem.run_pure,Result.andThen_ok,A7c,A6k,A66,j,hx,A54,e];exact t
  ·rename_i L
   have e:Sem.run prog (Builtin.append_ #[38,38] o.type #[.slice (some ⟨N,0,none⟩) 0 0, .slice (some L) 0 g]) w=.ok (.slice (some ⟨N,0,none⟩) 0 0) w:=by simp[Builtin.append_,go_sem]
   simp only[k,resolve,invoke,builtin,Sem.run_bind,Sem.run_pure,Result.andThen_ok,A7c,A6k,A66,j,hx,A54,e];exact t
 ·obtain⟨U,V,y,z⟩:=C
  simp only[Value.slice.injEq] at y;obtain⟨rfl,_,rfl⟩:=y;obtain⟨b,G,rfl,T,_⟩:=z 0 omz;have I:∀i (h:i<c.length),Jc w b (G+i*3) c[i]:=by
   intro i h;obtain⟨S,R,A,_,f⟩:=z i h;simp only[A65,Addr.mk.injEq,A8u] at A;obtain⟨rfl,rfl⟩:=A;exact f
  refine Eb hg s x _ k base 92 H _ 3 24 underlying38 hi M F O rfl dcz _ 0 [] j m _ _ _ (Be c) hx (Jr c) (Aay I) (Vf c) yAe omz B ?_;intro d w' f P _;rw[A6b,A6t] at f;exact q d w' f P
end Go.Proofs.YtnpfcnolmkanfaaGreatDoor
namespace Stil
def Bz (k:Int)(l:List Net):List Net:=l.flatMap λn=>if n.kind=k then n.kids else [n]
def E5 (k:Int)(ks:List Net):Net:=if h:ks.length=1 then ks[0] else⟨k,⟨0,[]⟩,ks⟩
def Au:Net->Net
 | ⟨k,e,kids⟩=>if k=2\/k=3 then E5 k (Bz k (kids.map Au)) else⟨k,e,kids.map Au⟩
theorem Iu (k:Int)(e:Elem)(kids:List Net):Au ⟨k,e,kids⟩=if k=2\/k=3 then E5 k (Bz k (kids.map Au)) else⟨k,e,kids.map Au⟩:=by rw[Au]
theorem Kv (k:Int)(a b:List Net):Bz k (a++b)=Bz k a++Bz k b:=by simp[Bz]
theorem Nz (k:Int)(n:Net):Bz k [n]=if n.kind=k then n.kids else [n]:=by simp[Bz]
def sizes (l:List Net):Nat:=(l.map Am).sum
theorem Sv (a b:List Net):sizes (a++b)=sizes a+sizes b:=by simp[sizes]
theorem Ep (n:Net):Am n=1+sizes n.kids:=by obtain⟨k,e,kids⟩:=n;exact Oz k e kids
theorem Ku (l:List Net):l.length<=sizes l:=by
 induction l with
 | nil=>simp[sizes]
 | cons x r b=>
  have:=Ep x
  simp only[sizes,A6k,A7b,A53] at b ⊢;omega
theorem Jw (k:Int)(l:List Net):sizes (Bz k l)<=sizes l:=by
 induction l with
 | nil=>simp[Bz,sizes]
 | cons x r c=>
  have e:x::r=[x]++r:=rfl;rw[e,Kv,Sv,Sv,Nz];have h:sizes (if x.kind=k then x.kids else [x])<=sizes [x]:=by
   have b:sizes [x]=Am x:=by simp[sizes]
   split
   ·have:=Ep x;omega
   ·exact A57 _
  omega
theorem Acm (k:Int)(ks:List Net):Am (E5 k ks)<=1+sizes ks:=by
 unfold E5;split
 ·rename_i h
  have b:=Ed Am ks ks[0] (A59 _);unfold sizes;omega
 ·rw[Ep];exact A57 _
theorem Ab5 (n:Net):Am (Au n)<=Am n:=by
 refine Gf (λn=>Am (Au n)<=Am n) ?_ n;intro k e kids b;have j:sizes (kids.map Au)<=sizes kids:=by
  clear n;induction kids with
  | nil=>simp[sizes]
  | cons x r f=>
   have d:=b x spz;have c:=f (λy g=>b y (A56 _ g));simp only[sizes,A6k,A7b] at c ⊢;omega
 rw[Iu];have i:Am ⟨k,e,kids⟩=1+sizes kids:=Ep _;split
 ·have d:=Acm k (Bz k (kids.map Au))
  have c:=Jw k (kids.map Au);omega
 ·rw[Ep]
  simp only;omega
theorem Agw (l:List Net):sizes (l.map Au)<=sizes l:=by
 induction l with
 | nil=>simp[sizes]
 | cons x r b=>
  have c:=Ab5 x;simp only[sizes,A6k,A7b] at b ⊢;omega
theorem Agi (l:List Net)(n:Nat):sizes (l.take n)<=sizes l:=by
 have h:=Sv (l.take n) (l.drop n);rw[A8r] at h;omega
theorem Axt (k:Int)(l:List Net)(n:Nat):(Bz k ((l.take n).map Au)).length<=sizes (l.map Au):=by
 have c:=Ku (Bz k ((l.take n).map Au));have d:=Jw k ((l.take n).map Au);have b:=Agi (l.map Au) n;rw[<-List.map_take] at b;omega
theorem Axu (k:Int)(l:List Net)(j:Nat)(h:j<l.length):Bz k ((l.take (j+1)).map Au)=Bz k ((l.take j).map Au)++(if(Au l[j]).kind=k then(Au l[j]).kids else [Au l[j]]):=by
 rw[A6l h,A6g,Kv];congr 1;exact Nz k _
theorem Vd (l:List Int)(h:∀x∈l,0<=x)(c:A8 l=0):∀x∈l,x=0:=by
 induction l with
 | nil=>intro x b;cases b
 | cons y r e=>
  unfold A8 at c;have f:=h y spz;split at c
  ·omega
  ·intro x b
   rcases List.mem_cons.1 b with rfl | b
   ·omega
   ·exact e (λz d=>h z (by simp[d])) c x b
theorem Jo {k:Int}{e:Elem}{kids:List Net}(h:Az ⟨k,e,kids⟩=0):
  (k=1/\kids=[])\/((k=2\/k=3)/\0<kids.length/\∀x∈kids,Az x=0)\/(k=4/\e=⟨0,[]⟩/\∃x,kids=[x]/\Az x=0):=by
 rw[Oy] at h;by_cases d:k=1
 ·rw[if_pos d] at h
  refine .inl ⟨d,?_⟩;by_cases b:0<kids.length
  ·rw[if_pos b] at h;omega
  ·exact List.length_eq_zero_iff.1 omz
 ·rw[if_neg d] at h
  by_cases b:We k e.op e.args.length kids.length=true
  ·rw[if_pos b] at h;omega
  ·rw[if_neg b] at h
   have j:=Vd _ (λx c=>by obtain⟨n,_,rfl⟩:=List.mem_map.1 c;exact(Jv n).1) h;have g:=λx c=>j _ (List.mem_map.2 ⟨x,c,rfl⟩)
   simp only[We,Bool.or_eq_true,decide_eq_true_eq,bne_iff_ne,ne_eq,A8h,Bool.and_eq_true,not_or,not_and,Decidable.not_not] at b;obtain⟨⟨⟨⟨⟨y,w⟩,f⟩,l⟩,s⟩,q⟩:=b;by_cases i:k=4
   ·refine .inr (.inr ⟨i,?_,?_⟩)
    ·obtain⟨op,args⟩:=e
     simp only at f l;have:args=[]:=List.length_eq_zero_iff.1 omz;subst this;subst f;rfl
    ·have t:=q i
     have m:kids.length=1:=omz
     obtain⟨x,rfl⟩:=List.length_eq_one_iff.1 m;exact⟨x,rfl,g x spz⟩
   ·exact .inr (.inl ⟨omz,omz,g⟩)
theorem Ag0 {k:Int}{e:Elem}{kids:List Net}{c:Nat}(h:Am ⟨k,e,kids⟩<=c):sizes (kids.map Au)<=c/\∀x∈kids,Am x<=c:=by
 have d:=Agw kids;rw[Oz] at h;refine⟨by unfold sizes at d ⊢;omega,λx b=>?_⟩;have:=Ed Am kids x b
 omega
structure Tq where
 code:Int
 one:Elem
def Tq.fits (i:Tq):Prop:=i64 i.code/\i.one.fits
theorem Xw (a:Net)(r:List Net):sizes (a::r)=Am a+sizes r:=by simp[sizes]
theorem Adq:sizes []=0:=rfl
end Stil
namespace Go.Proofs.YtnpfcnolmkanfaaGreatDoor
open Tryz
open Go.RowKit Go.Sort Go.BigFrame
variable {base base' n o:Nat}{u v x:Value}{w':World}
def Aqo (w:World)(b o:Nat)(i:Stil.Tq):Prop:=w.cell? ⟨b,o,none⟩=some (.int .i64 i.code)/\w.cell? ⟨b,o+1,none⟩=some (.int .i64 i.one.op)/\∃c,w.cell? ⟨b,o+2,none⟩=some c/\Dh w c i.one.args
def Hf (w:World)(v:Value)(l:List Stil.Tq):Prop:=∃a cap,v=.slice a l.length cap/\∀i (h:i<l.length),∃b o,a=some ⟨b,o,none⟩/\b<w.heap.size/\Aqo w b (o+i*3) l[i]
theorem Aqo.below {w:World}{b:Nat}{i:Stil.Tq}(h:Aqo w b o i)(c:Below w.heap.size w w')(d:b<w.heap.size):Aqo w' b o i:=by
 obtain⟨e,k,g,j,f⟩:=h;exact⟨by rw[c.cell (p:=⟨b,o,none⟩) d];exact e,by rw[c.cell (p:=⟨b,o+1,none⟩) d];exact k,g,by rw[c.cell (p:=⟨b,o+2,none⟩) d];exact j,f.below c⟩
theorem Hf.below {w:World}{l:List Stil.Tq}(h:Hf w v l)(c:Below w.heap.size w w'):Hf w' v l:=by
 obtain⟨a,cap,e,g⟩:=h;refine⟨a,cap,e,λi hi=>?_⟩;obtain⟨b,o,f,d,j⟩:=g i hi;exact⟨b,o,f,A51 d c.size,j.below c d⟩
def A1e (lo:Nat)(w:World)(b o:Nat)(i:Stil.Tq):Prop:=w.cell? ⟨b,o,none⟩=some (.int .i64 i.code)/\w.cell? ⟨b,o+1,none⟩=some (.int .i64 i.one.op)/\∃c,w.cell? ⟨b,o+2,none⟩=some c/\I8 lo w c i.one.args
def Afj (lo:Nat)(w:World)(v:Value)(l:List Stil.Tq):Prop:=∃a cap,v=.slice a l.length cap/\∀i (h:i<l.length),∃b o,a=some ⟨b,o,none⟩/\lo<=b/\b<w.heap.size/\A1e lo w b (o+i*3) l[i]
theorem Afj.at {lo:Nat}{w:World}{l:List Stil.Tq}(h:Afj lo w v l):Hf w v l:=by
 obtain⟨a,cap,f,e⟩:=h;refine⟨a,cap,f,λi hi=>?_⟩;obtain⟨b,o,d,q,g,c,p,k,m,j⟩:=e i hi;exact⟨b,o,d,g,c,p,k,m,j.at⟩
theorem Akz:(prog.info? 40).map (λi=>(i.zero,i.size,i.bytes))=some (some (.agg #[.int .i64 0, .slice none 0 0]),2,32):=krz
theorem Aig:(prog.info? 43).map (λi=>(i.zero,i.size,i.bytes))=some (some (.agg #[.int .i64 0, .int .i64 0, .slice none 0 0, .slice none 0 0]),4,64):=krz
theorem Aps:(prog.info? 46).map (λi=>(i.zero,i.size,i.bytes))=some (some (.agg #[.int .i64 0, .int .i64 0, .slice none 0 0, .slice none 0 0, .slice none 0 0, .slice none 0 0]),6,112):=krz
abbrev Pl:=Nat × Nat
def ad (p:Pl):Addr:=⟨p.1,p.2,none⟩
def Aht (w:World)(b:List Pl):Prop:=∀p∈b,p.1<w.heap.size/\(∃n,w.cell? (ad p)=some (.int .i64 n))/\w.frozen? (ad p)=false
def Amf (v:Value)(c:List Pl):Prop:=∃a n cap,v=.slice a n cap/\c.length=3*n/\∀j (h:j<c.length),∃b o,a=some ⟨b,o,none⟩/\c[j]=(b,o+j)
def Oj (b:Nat):Nat->List (List Pl)->List Pl
 | _,[]=>[]
 | o,q::r=>(b,o)::(b,o+1)::(q++Oj b (o+3) r)
def Ayy (w:World)(v:Value)(b o:Nat)(qs:List (List Pl)):Prop:=(∃a cap,v=.slice a qs.length cap/\(0<qs.length->a=some ⟨b,o,none⟩))/\
 ∀i (h:i<qs.length),b<w.heap.size/\(b,o+i*3+2)∉Oj b o qs/\∃c,w.cell? ⟨b,o+i*3+2,none⟩=some c/\Amf c qs[i]
def Zn (g n:Nat):List Pl:=(List.range (3*n)).map λj=>(g,j)
theorem Afa (g n:Nat):(Zn g n).length=3*n:=by simp[Zn]
theorem Ae9 {g:Nat}{p:Pl}(h:p∈Zn g n):p.1=g/\p.2<3*n:=by
 obtain⟨j,b,rfl⟩:=List.mem_map.1 h;exact⟨rfl,List.mem_range.1 b⟩
theorem Ajk (g n:Nat):(Zn g n).Nodup:=by
 unfold Zn;refine List.pairwise_map.2 (List.Pairwise.imp ?_ List.nodup_range);intro a b h e;exact h (A8p e).2
theorem Aoe {w:World}{c:List Stil.Dev}(h:w.ownsRow base 92 3 u c.length (Be c)):
  ∃f:List Pl,Amf u f/\Aht w f/\f.Nodup/\(∀p∈f,base<=p.1/\u.ownBlock=some p.1)/\f.length=3*c.length:=by
 by_cases hd:c.length=0
 ·have z:=List.length_eq_zero_iff.1 hd
  subst z;obtain⟨a,cap,rfl⟩:=Aj h;exact⟨[],⟨a,0,cap,rfl,rfl,λj l=>absurd l spz⟩,(λp d=>by cases d),A9a,(λp d=>by cases d),rfl⟩
 ·obtain⟨g,cap,t,s,y,_,k⟩:=Bo h omz
  subst t;refine⟨Zn g c.length,⟨_,_,_,rfl,Afa _ _,λj l=>⟨g,0,rfl,by simp[Zn]⟩⟩,λp d=>?_,Ajk _ _,λp d=>?_,Afa _ _⟩
  ·obtain⟨i,C⟩:=Ae9 d
   obtain⟨b,j⟩:=p;simp only at i C;subst i;refine⟨y,?_,h.frozenAt _⟩;have hi:j / 3<c.length:=omz
   obtain⟨B,A,q⟩:=Lm c (j / 3) hi;have m:j=j / 3*3\/j=j / 3*3+1\/j=j / 3*3+2:=omz
   rcases m with e | e | e
   ·exact⟨_,by rw[ad,e];exact k _ _ B⟩
   ·exact⟨_,by rw[ad,e];exact k _ _ A⟩
   ·exact⟨_,by rw[ad,e];exact k _ _ q⟩
  ·obtain⟨i,_⟩:=Ae9 d
   rw[i];exact⟨s,rfl⟩
theorem Uk (b:Nat):∀(d:List (List Pl)) (o:Nat) (p:Pl),p∈Oj b o d->(∃i,i<d.length/\(p=(b,o+i*3)\/p=(b,o+i*3+1)))\/∃q∈d,p∈q
 | [],_,p,h=>by simp[Oj] at h
 | q::r,o,p,h=>by
  rw[Oj] at h;simp only[A6n,A6f] at h;rcases h with h | h | h | h
  ·exact .inl ⟨0,spz, .inl yBi⟩
  ·exact .inl ⟨0,spz, .inr yBi⟩
  ·exact .inr ⟨q,spz,h⟩
  ·rcases Uk b r (o+3) p h with⟨i,hi,c⟩ | ⟨g,f,c⟩
   ·refine .inl ⟨i+1,by simp;omega,?_⟩
    have e:o+3+i*3=o+(i+1)*3:=omz
    rwa [e] at c
   ·exact .inr ⟨g,A56 _ f,c⟩
theorem zz0 {p:Prop}(h:p:=by
 subst hp
 refine⟨λe=>?_,λe=>?_,λe=>hq2 _ e rfl⟩
 ·have:=(A8p e).2;omega
 ·have:=(A8p e).2;omega):p:=h
theorem Ace (b:Nat):∀(j:List (List Pl)) (o:Nat),(∀q∈j,q.Nodup/\∀p∈q,p.1≠b)->j.Pairwise (λq r=>∀p∈q,p∉r)->(Oj b o j).Nodup
 | [],_,_,_=>A9a
 | q::r,o,g,l=>by
  have s:=Ace b r (o+3) (λx d=>g x (A56 _ d)) (List.pairwise_cons.1 l).2;obtain⟨w,hq2⟩:=g q spz;have f:∀p∈Oj b (o+3) r,p≠(b,o)/\p≠(b,o+1)/\p∉q:=by
   intro p hp;rcases Uk b r (o+3) p hp with⟨i,_,hp | hp⟩ | ⟨x,d,hp⟩
   ·exact zz0
   ·exact zz0
   ·have k:=(g x (A56 _ d)).2 p hp
    exact⟨λe=>k (by rw[e]),λe=>k (by rw[e]),λe=>(List.pairwise_cons.1 l).1 x d p e hp⟩
  rw[Oj,List.nodup_cons,List.nodup_cons,A63];refine⟨?_,?_,w,s,λa m c t e=>(f c t).2.2 (e ▸ m)⟩
  ·simp only[A6n,A6f,not_or]
   exact⟨λe=>by have:=(A8p e).2;omega,λe=>hq2 _ e rfl,λe=>(f _ e).1 rfl⟩
  ·simp only[A6f,not_or]
   exact⟨λe=>hq2 _ e rfl,λe=>(f _ e).2.1 rfl⟩
theorem An0 {b i:Nat}{qs:List (List Pl)}(h:∀q∈qs,∀p∈q,p.1≠b):(b,o+i*3+2)∉Oj b o qs:=by
 intro e;rcases Uk b qs o _ e with⟨j,_,c | c⟩ | ⟨q,d,c⟩
 ·have:=(A8p c).2;omega
 ·have:=(A8p c).2;omega
 ·exact h q d _ c rfl
theorem Anz {w:World}{b cap:Nat}{l:List Stil.Tq}{qs:List (List Pl)}(e:b<w.heap.size)(hl:qs.length=l.length)
  (h:∀i (h:i<l.length),w.cell? ⟨b,i*3,none⟩=some (.int .i64 l[i].code)/\w.cell? ⟨b,i*3+1,none⟩=some (.int .i64 l[i].one.op)/\∃u,w.cell? ⟨b,i*3+2,none⟩=some u/\Amf u (qs[i]'omz)/\Dh w u l[i].one.args)
  (k:∀o,w.frozen? ⟨b,o,none⟩=false) (d:∀q∈qs,Aht w q/\q.Nodup/\∀p∈q,p.1≠b) (hd:qs.Pairwise (λq r=>∀p∈q,p∉r)):
  Ayy w (.slice (some ⟨b,0,none⟩) l.length cap) b 0 qs/\Aht w (Oj b 0 qs)/\(Oj b 0 qs).Nodup/\Hf w (.slice (some ⟨b,0,none⟩) l.length cap) l:=by
 refine⟨⟨⟨_,cap,by rw[hl],λ_=>rfl⟩,λi hi=>?_⟩,λp c=>?_,Ace b qs 0 (λq h=>⟨(d q h).2.1,(d q h).2.2⟩) hd,⟨_,cap,rfl,λi hi=>?_⟩⟩
 ·obtain⟨_,_,u,g,t,_⟩:=h i omz
  exact⟨e,An0 (λq h=>(d q h).2.2),u,by rw[A6b];exact g,t⟩
 ·rcases Uk b qs 0 p c with⟨i,hi,c | c⟩ | ⟨q,m,c⟩
  ·subst c
   obtain⟨f,_⟩:=h i omz;exact⟨e,⟨_,by rw[ad];simp only[A6b];exact f⟩,k _⟩
  ·subst c
   obtain⟨_,j,_⟩:=h i omz;exact⟨e,⟨_,by rw[ad];simp only[A6b];exact j⟩,k _⟩
  ·exact(d q m).1 p c
 ·obtain⟨f,j,u,g,_,s⟩:=h i hi
  exact⟨b,0,rfl,e,by rw[A6b];exact f,by rw[A6b];exact j,u,by rw[A6b];exact g,s⟩
def Aside (u v:Value):Prop:=u.ownBlock=none\/u.ownBlock≠v.ownBlock
theorem Aside.symm (h:Aside u v):Aside v u:=by
 rcases h with h | h
 ·by_cases e:v.ownBlock=none
  ·exact .inl e
  ·exact .inr (by rw[h];exact e)
 ·exact .inr (λe=>h e.symm)
theorem Aside.no {k:Nat}(h:Aside u v)(hu:u.ownBlock=some k)(b:v.ownBlock=some k):False:=by
 rcases h with h | h
 ·rw[hu] at h;cases h
 ·exact h (by rw[hu,b])
theorem Ij {y:Value}(hx:∀k,x.ownBlock=some k->k<n)(d:∀k,y.ownBlock=some k->n<=k):Aside x y:=by
 by_cases e:x.ownBlock=none
 ·exact .inl e
 ·obtain⟨k,c⟩:=Option.ne_none_iff_exists'.1 e
  refine .inr (λb=>?_);rw[c] at b;have f:=hx k c;have g:=d k b.symm;omega
structure Aq where
 kind:Int
 op:Int
 ds:List Stil.Dev
 av:Value
 kv:Value
 kids:List Aq
theorem X7 (P:Aq->Prop)(h:∀k op d c b kids,(∀x∈kids,P x)->P ⟨k,op,d,c,b,kids⟩):∀n,P n
 | ⟨k,op,d,c,b,kids⟩=>h k op d c b kids (λx _=>X7 P h x)
def Aq.net:Aq->Stil.Net
 | ⟨k,op,ds,_,_,kids⟩=>⟨k,⟨op,ds⟩,kids.map Aq.net⟩
theorem Aq.net_eq (m:Aq):m.net=⟨m.kind,⟨m.op,m.ds⟩,m.kids.map Aq.net⟩:=by obtain⟨k,op,ds,av,kv,kids⟩:=m;rw[Aq.net]
def Aq.vals:Aq->List Value
 | ⟨_,_,_,av,kv,kids⟩=>av::kv::(kids.map Aq.vals).flatten
def Fp (b:List Aq):List Value:=(b.map Aq.vals).flatten
theorem Aq.vals_eq (m:Aq):m.vals=m.av::m.kv::Fp m.kids:=by obtain⟨k,op,ds,av,kv,kids⟩:=m;rw[Aq.vals];rfl
theorem P6 (a b:List Aq):Fp (a++b)=Fp a++Fp b:=by simp[Fp]
theorem Kt (m:Aq):Fp [m]=m.vals:=by simp[Fp]
theorem P5 {d:List Aq}:x∈Fp d↔∃m∈d,x∈m.vals:=by
 simp only[Fp,List.mem_flatten,A6m];constructor
 ·rintro⟨_,⟨m,c,rfl⟩,b⟩;exact⟨m,c,b⟩
 ·rintro⟨m,c,b⟩;exact⟨_,⟨m,c,rfl⟩,b⟩
def Aq.cells (m:Aq):List Value:=[.int .i64 m.kind, .int .i64 m.op,m.av,m.kv]
def Io (b:List Aq):List Value:=b.flatMap Aq.cells
theorem Aic (a b:List Aq):Io (a++b)=Io a++Io b:=by simp[Io]
theorem Agz (b:List Aq):(Io b).length=b.length*4:=by
 induction b with
 | nil=>rfl
 | cons m r c=>
  have e:Io (m::r)=m.cells++Io r:=rfl;rw[e,A52,c];simp[Aq.cells];omega
theorem Nv:∀(b:List Aq) (i:Nat) (h:i<b.length),(Io b)[i*4]?=some (.int .i64 b[i].kind)/\(Io b)[i*4+1]?=some (.int .i64 b[i].op)/\(Io b)[i*4+2]?=some b[i].av/\(Io b)[i*4+3]?=some b[i].kv
 | [],_,h=>by simp at h
 | m::r,0,_=>⟨rfl,rfl,rfl,rfl⟩
 | m::r,i+1,h=>by
  obtain⟨f,c,j,g⟩:=Nv r i yBi;have e:Io (m::r)=.int .i64 m.kind::.int .i64 m.op::m.av::m.kv::Io r:=rfl;have d:(i+1)*4=i*4+1+1+1+1:=omz
  rw[e,d];exact⟨by simpa using f,by simpa using c,by simpa using j,by simpa using g⟩
def MOk (w:World)(base:Nat):Aq->Prop
 | ⟨_,_,b,d,c,kids⟩=>w.ownsRow base 92 3 d b.length (Be b)/\w.ownsRow base 43 4 c kids.length (Io kids)/\∀p∈kids.map (MOk w base),p
theorem Jb (w:World)(base:Nat)(m:Aq):MOk w base m↔w.ownsRow base 92 3 m.av m.ds.length (Be m.ds)/\w.ownsRow base 43 4 m.kv m.kids.length (Io m.kids)/\∀x∈m.kids,MOk w base x:=by
 obtain⟨k,op,d,c,b,kids⟩:=m;rw[MOk,Stil.all_map]
theorem MOk.map {w:World}(m:Aq)(h:MOk w base m)(c:∀(e:TypeId) (s n:Nat) (v:Value) (b:List Value),v∈m.vals->w.ownsRow base e s v n b->w'.ownsRow base' e s v n b):MOk w' base' m:=by
 revert h c
 refine X7 (λm=>MOk w base m->(∀(e:TypeId) (s n:Nat) (v:Value) (b:List Value),v∈m.vals->w.ownsRow base e s v n b->w'.ownsRow base' e s v n b)->MOk w' base' m) ?_ m;intro k op l j i kids f h c;rw[Jb] at h ⊢;simp only[Aq.vals_eq] at c;refine⟨c _ _ _ _ _ spz h.1,c _ _ _ _ _ spz h.2.1,λx d=>f x d (h.2.2 x d) (λe s n v b g=>c e s n v b ?_)⟩;exact A56 _ (A56 _ (P5.2 ⟨x,d,g⟩))
theorem MOk.below {w:World}{m:Aq}(h:MOk w base m)(c:Below w.heap.size w w'):MOk w' base m:=MOk.map m h (λ_ _ _ _ _ _ b=>ownsRow_below b c)
theorem MOk.kept {w:World}{m:Aq}(h:MOk w base m)(hg:w.grownBy w' x.ownBlock)(d:∀u∈m.vals,Aside u x):MOk w' base m:=MOk.map m h (λ_ _ _ _ _ c b=>b.kept hg (d _ c))
theorem MOk.le {w:World}{m:Aq}(h:MOk w base m)(hl:base'<=base):MOk w base' m:=MOk.map m h (λ_ _ _ _ _ _ b=>Joins.ownsRow_le b hl)
theorem MOk.lt {w:World}(m:Aq)(h:MOk w base m):∀x∈m.vals,∀k,x.ownBlock=some k->base<=k/\k<w.heap.size:=by
 revert h
 refine X7 (λm=>MOk w base m->∀x∈m.vals,∀k,x.ownBlock=some k->base<=k/\k<w.heap.size) ?_ m;intro k op i g f kids e h x b j c;rw[Jb] at h;rw[Aq.vals_eq] at b;simp only[A6n] at b;rcases b with rfl | rfl | b
 ·exact h.1.lt j c
 ·exact h.2.1.lt j c
 ·obtain⟨y,d,b⟩:=P5.1 b
  exact e y d (h.2.2 y d) x b j c
def J7 (w:World)(base:Nat)(m:Aq):Prop:=MOk w base m/\m.vals.Pairwise Aside
theorem J7.below {w:World}{m:Aq}(h:J7 w base m)(b:Below w.heap.size w w'):J7 w' base m:=⟨h.1.below b,h.2⟩
theorem J7.le {w:World}{m:Aq}(h:J7 w base m)(hl:base'<=base):J7 w base' m:=⟨h.1.le hl,h.2⟩
def L9 (w:World)(base:Nat)(v:Value)(b:List Aq):Prop:=w.ownsRow base 43 4 v b.length (Io b)/\(∀m∈b,MOk w base m)/\(v::Fp b).Pairwise Aside
theorem L9.nil (w:World)(base:Nat):L9 w base (.slice none 0 0) []:=⟨World.ownsRow_nil _ _ _ _,(λm b=>by cases b),A7t _ _⟩
theorem L9.below {w:World}{b:List Aq}(h:L9 w base v b)(c:Below w.heap.size w w'):L9 w' base v b:=⟨ownsRow_below h.1 c,λm d=>(h.2.1 m d).below c,h.2.2⟩
theorem L9.le {w:World}{b:List Aq}(h:L9 w base v b)(hl:base'<=base):L9 w base' v b:=⟨Joins.ownsRow_le h.1 hl,λm c=>(h.2.1 m c).le hl,h.2.2⟩
theorem L9.lt {w:World}{d:List Aq}(h:L9 w base v d):∀x∈v::Fp d,∀k,x.ownBlock=some k->base<=k/\k<w.heap.size:=by
 intro x b k c;rcases List.mem_cons.1 b with rfl | b
 ·exact h.1.lt k c
 ·obtain⟨m,e,b⟩:=P5.1 b
  exact(h.2.1 m e).lt m x b k c
theorem L9.add {w:World}{g:Value}{d ks:List Aq}(h:L9 w base v d)(q:∀m∈ks,MOk w base m)(f:(v::(Fp d++Fp ks)).Pairwise Aside)
  (s:w'.ownsRow base 43 4 g (d.length+ks.length) (Io d++Io ks)) (hg:w.grownBy w' v.ownBlock) (z:g.ownBlock=v.ownBlock\/g.ownBlock=some w.heap.size):L9 w' base g (d++ks):=by
 rw[A6o] at f;have t:∀x∈Fp d++Fp ks,∀k,x.ownBlock=some k->k<w.heap.size:=by
  intro x c k i;rcases List.mem_append.1 c with c | c
  ·exact(h.lt x (A56 _ c) k i).2
  ·obtain⟨m,b,c⟩:=P5.1 c
   exact((q m b).lt m x c k i).2
 refine⟨by rw[A52,Aic];exact s,λm b=>?_,?_⟩
 ·rcases List.mem_append.1 b with b | b
  ·exact(h.2.1 m b).kept hg (λu hu=>(f.1 u (A6d _ (P5.2 ⟨m,b,hu⟩))).symm)
  ·exact(q m b).kept hg (λu hu=>(f.1 u (A6a _ (P5.2 ⟨m,b,hu⟩))).symm)
 ·rw[P6,A6o]
  refine⟨λy j=>?_,f.2⟩;rcases z with e | e
  ·rcases f.1 y j with h0 | h0
   ·exact .inl yCf
   ·exact .inr yCf
  ·refine .inr (λl=>?_)
   rw[e] at l;have:=t y j _ l.symm
   omega
theorem L9.apart {w w1:World}{g ks:List Aq}{b1:Nat}(h:L9 w base v g)(l:∀m∈ks,MOk w1 b1 m)(q:w.heap.size<=b1)(i:(Fp ks).Pairwise Aside):(v::(Fp g++Fp ks)).Pairwise Aside:=by
 have f:=h.lt;have c:∀y∈Fp ks,∀k,y.ownBlock=some k->w.heap.size<=k:=by
  intro y c k d;obtain⟨m,s,c⟩:=P5.1 c;exact A6e q ((l m s).lt m y c k d).1
 have e:=h.2.2;rw[A6o] at e ⊢;refine⟨λy b=>?_,List.pairwise_append.2 ⟨e.2,i,λx j y b=>Ij (λk d=>(f x (A56 _ j) k d).2) (c y b)⟩⟩;rcases List.mem_append.1 b with b | b
 ·exact e.1 y b
 ·exact Ij (λk d=>(f v spz k d).2) (c y b)
theorem J7.kids {w:World}{m:Aq}(h:J7 w base m):(∀x∈m.kids,MOk w base x)/\(Fp m.kids).Pairwise Aside:=by
 refine⟨((Jb w base m).1 h.1).2.2,?_⟩;have b:=h.2;rw[Aq.vals_eq,A6o,A6o] at b;exact b.2.2
theorem L9.one {w:World}{b:List Aq}(h:L9 w base v b)(i:Nat)(hi:i<b.length):J7 w base b[i]:=by
 refine⟨h.2.1 _ (A59 hi),?_⟩;have c:=(List.pairwise_cons.1 h.2.2).2;unfold Fp at c;rw[List.pairwise_flatten] at c;exact c.1 _ (List.mem_map.2 ⟨_,A59 hi,rfl⟩)
theorem L9.net {w:World}{c:Value}{b:List Aq}(k op:Int)(d:List Stil.Dev)(h:L9 w base v b)(e:w.ownsRow base 92 3 c d.length (Be d))(hd:∀x∈v::Fp b,Aside c x):J7 w base ⟨k,op,d,c,v,b⟩:=by
 refine⟨(Jb _ _ _).2 ⟨e,h.1,h.2.1⟩,?_⟩;rw[Aq.vals_eq,A6o];exact⟨hd,h.2.2⟩
theorem Qe (x:Value):Aside (.slice none 0 0) x:=.inl rfl
theorem MOk.from {w:World}(m:Aq)(h:MOk w base m):I8 base w m.av m.net.one.args/\Tn base w m.kv m.net.kids:=by
 revert h
 refine X7 (λm=>MOk w base m->I8 base w m.av m.net.one.args/\Tn base w m.kv m.net.kids) ?_ m;intro k op F H D kids z h;rw[Jb] at h;rw[Aq.net_eq];refine⟨I8.of_owns h.1,?_⟩;simp only at h ⊢;by_cases G:kids.length=0
 ·obtain⟨a,cap,rfl⟩:=Aj h.2.1
  exact⟨a,cap,spz,λi hi=>absurd hi yAd⟩
 ·obtain⟨g,cap,l,j,s,_,b⟩:=Bo h.2.1 omz
  subst l;refine⟨_,cap,spz,λi hi=>⟨g,0,rfl,j,s,?_⟩⟩;have c:i<kids.length:=by simpa using hi
  obtain⟨C,A,d,y⟩:=Nv kids i c;obtain⟨q,t⟩:=z _ (A59 c) (h.2.2 _ (A59 c));rw[A7q,Afh,A6b];have e:=Aq.net_eq kids[i];have B:kids[i].net.kind=kids[i].kind:=by rw[e]
  have f:kids[i].net.one.op=kids[i].op:=by rw[e]
  rw[B,f];exact⟨b _ _ C,b _ _ A,⟨_,b _ _ d,q⟩,⟨_,b _ _ y,t⟩⟩
end Go.Proofs.YtnpfcnolmkanfaaGreatDoor
