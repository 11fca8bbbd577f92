import Derived.Test.YtnpfcnolmkanfaaGreatDoorGl
import Derived.OneCell
namespace Go.Proofs.YtnpfcnolmkanfaaGreatDoor
open Tryz
open Go.RowKit Go.Sort Go.BigFrame
variable {a:Addr}{base:Nat}
def Qi (w:World)(base:Nat)(n:Stil.Net)(e:Ending):Prop:=∃(k op:Int) (c:List Stil.Dev) (f:Option Addr) (g:Nat) (d:Option Addr) (h:Nat) (b:List Aq),e=.returned (.agg #[.int .i64 k, .int .i64 op, .slice f c.length g, .slice d b.length h])/\
 J7 w base ⟨k,op,c, .slice f c.length g, .slice d b.length h,b⟩/\(Aq.mk k op c (.slice f c.length g) (.slice d b.length h) b).net=n
theorem MOk.set {w:World}{m:Aq}(h:MOk w base m)(c:a.block<base)(u:Value):MOk (w.setCell a u) base m:=MOk.map m h (λ_ _ _ _ _ _ b=>ownsRow_setCell_below b c u)
theorem MOk.set4 {w:World}{b d e f i:Nat}{m:Aq}{u1 u2 u3 g:Value}(h:MOk w base m)(c:b<base):MOk ((((w.setCell ⟨b,d,none⟩ u1).setCell ⟨b,e,none⟩ u2).setCell ⟨b,f,none⟩ u3).setCell ⟨b,i,none⟩ g) base m:=
 MOk.set (MOk.set (MOk.set (MOk.set h (a:=⟨b,d,none⟩) c u1) (a:=⟨b,e,none⟩) c u2) (a:=⟨b,f,none⟩) c u3) (a:=⟨b,i,none⟩) c g
theorem J7.set {w:World}{m:Aq}(h:J7 w base m)(b:a.block<base)(u:Value):J7 (w.setCell a u) base m:=⟨h.1.set b u,h.2⟩
theorem L9.set {w:World}{v:Value}{b:List Aq}(h:L9 w base v b)(c:a.block<base)(u:Value):L9 (w.setCell a u) base v b:=⟨ownsRow_setCell_below h.1 c u,λm d=>(h.2.1 m d).set c u,h.2.2⟩
end Go.Proofs.YtnpfcnolmkanfaaGreatDoor
namespace Stil
end Stil
namespace Go.Proofs.YtnpfcnolmkanfaaGreatDoor
open Tryz
open Go.RowKit Go.Sort Go.BigFrame
variable {E:Prop}{W:World}{a:Act}{base:Nat}{o:Oper}{ops:Array Oper}{rest:List Oper}{u0 u1 u2 u3 v1 v2 v3:Value}
theorem Aeg {w:World}{ks:List Aq}(d:∀m∈ks,MOk w base m):∀u∈Io ks,u.oneCell'=true:=by
 intro u hu;obtain⟨m,e,hu⟩:=List.mem_flatMap.1 hu;have h:=(Jb w base m).1 (d m e);obtain⟨g,i,c⟩:=Aj h.1;obtain⟨f,j,b⟩:=Aj h.2.1;simp only[Aq.cells,A6n,A9e,A7u] at hu;rcases hu with rfl | rfl | rfl | rfl
 ·rfl
 ·rfl
 ·rw[c];rfl
 ·rw[b];rfl
theorem zc0 {p:Prop}(h:p:=by
 rename_i t1
 have e:Sem.run prog (Builtin.append_ #[41,41] o.type #[.slice ra ms.length rc, .slice (some t1) 0 c]) w=.ok (.slice ra ms.length rc) w:=by cases ra<;>simp[Builtin.append_,go_sem,hcap]
 simp only[hop,resolve,invoke,builtin,Sem.run_bind,Sem.run_pure,Result.andThen_ok,A7c,A6k,A66,hs,hx,e];exact hk2):p:=h
theorem zh0 {p:Prop}(h:p:=by
 have e:Sem.run prog (Builtin.append_ #[41,41] o.type #[.slice ra ms.length rc, .slice none 0 c]) w=.ok (.slice ra ms.length rc) w:=by cases ra<;>simp[Builtin.append_,go_sem,hcap]
 simp only[hop,resolve,invoke,builtin,Sem.run_bind,Sem.run_pure,Result.andThen_ok,A7c,A6k,A66,hs,hx,e];exact hk2):p:=h
theorem Acr {w:World}{K:Act->World->Prop}{Q:Exit->Act->World->Prop}
  (hg:o.guard=none) (s x:Operand) (hop:o.op=.call {callee:=.builtin .append,args:=#[s,x],argTypes:=#[41,41]})
  (base:Nat) (ra:Option Addr) (rc:Nat) (ms ks:List Aq) (ad:Option Addr) (c:Nat) (hs:a.eval s=.slice ra ms.length rc) (hx:a.eval x=.slice ad ks.length c)
  (hrow:L9 w base (.slice ra ms.length rc) ms) (M:0<ks.length->∃p,ad=some p/\∀j u,(Io ks)[j]?=some u->w.cell? (p.add j)=some u)
  (q:∀m∈ks,MOk w base m) (D:(Value.slice ra ms.length rc::(Fp ms++Fp ks)).Pairwise Aside) (hl:ms.length+ks.length<=1000000) (n:base<=w.heap.size)
  (k:∀l f b,L9 b base (.slice l (ms.length+ks.length) f) (ms++ks)->Below base w b->K (a.put o.dst (.slice l (ms.length+ks.length) f)) b):
  if Region.wanted o (yielded ops a.tmps)=true then Oper.wp prog o a w K Q else E:=by
 obtain⟨B,hi,H,y,J⟩:=info_parts Aig;by_cases hd:ks.length=0
 ·have F:=List.length_eq_zero_iff.1 hd
  subst F;have v:Region.wanted o (yielded ops a.tmps)=true:=by simp[Region.wanted,hg]
  rw[if_pos v];have hcap:ms.length<=rc:=by
   rcases hrow.1.2 with⟨i,d⟩ | ⟨g,f,cur,i,_,_,C,_⟩
   ·rw[d];exact A7l _
   ·simp only[Value.slice.injEq] at i
    rw[i.2.2];exact C
  have hk2:=k ra rc w yDd (Below.refl _ _);simp only[A54,A75] at hk2 hx;unfold Oper.wp execOp;cases ad
  ·exact zh0
  ·exact zc0
 ·obtain⟨p,rfl,z⟩:=M omz
  refine Eb hg s x _ hop base 43 B _ 4 64 underlying41 hi H y J rfl dcz _ _ (Io ms) hs hrow.1 _ _ _ (Io ks) hx (Agz ks) z (Aeg q) yAe omz n ?_;intro N b d r L;obtain⟨A,t,G⟩:=Aj d;subst G;exact k A t b (hrow.add q D d r L) ((Below.refl _ _).grown r n (λj I=>(hrow.1.lt j I).1))
theorem Sr {w:World}{Q:Exit->Act->World->Prop}
  (hg:o.guard=none) (s x:Operand) (v:o.op=.call {callee:=.builtin .append,args:=#[s,x],argTypes:=#[41,41]})
  (base:Nat) (g:Option Addr) (i:Nat) (b ks:List Aq) (ad:Option Addr) (c:Nat) (r:a.eval s=.slice g b.length i) (hx:a.eval x=.slice ad ks.length c)
  (q:L9 w base (.slice g b.length i) b) (A:0<ks.length->∃p,ad=some p/\∀j u,(Io ks)[j]?=some u->w.cell? (p.add j)=some u)
  (n:∀m∈ks,MOk w base m) (z:(Value.slice g b.length i::(Fp b++Fp ks)).Pairwise Aside) (hl:b.length+ks.length<=1000000) (l:base<=w.heap.size)
  (h:∀f e d,L9 d base (.slice f (b.length+ks.length) e) (b++ks)->Below base w d->wpList prog ops Q rest (a.put o.dst (.slice f (b.length+ks.length) e)) d):
  wpList prog ops Q (o::rest) a w:=by
 refine wpList_plain hg λK k=>?_
 have t:Region.wanted o (yielded #[] a.tmps)=true:=by simp[Region.wanted,hg]
 have:=Acr (ops:=#[]) (K:=K) (Q:=Q) (E:=True) hg s x v base g i b ks ad c r hx q A n z hl l (λf e d y B=>k _ _ (h f e d y B))
 rwa [if_pos t] at this
theorem L9.single {w:World}{m:Aq}(h:J7 w base m)(d:base<=w.heap.size):L9 (w.alloc (.cells #[.int .i64 m.kind, .int .i64 m.op,m.av,m.kv] 43)) base (.slice (some ⟨w.heap.size,0,none⟩) 1 1) [m]:=by
 refine⟨?_,λx c=>?_,?_⟩
 ·exact World.ownsRow_lit w #[.int .i64 m.kind, .int .i64 m.op,m.av,m.kv] 1 d yAe rfl
 ·rw[List.mem_singleton.1 c];exact h.1.below (Aa _ _)
 ·rw[Kt,A6o]
  refine⟨λy f=>(Ij (n:=w.heap.size) (λk b=>(h.1.lt m y f k b).2) (λk b=>?_)).symm,h.2⟩;have e:w.heap.size=k:=by simpa[Value.ownBlock] using b
  omega
theorem Nk {p q:Addr}{v:Value}:(W.setCell p v).frozen? q=W.frozen? q:=by simp[go_sem]
theorem cells4 {t:TypeId}:∀j u,[u0,u1,u2,u3][j]?=some u->(W.alloc (.cells #[u0,u1,u2,u3] t)).cell? ((⟨W.heap.size,0,none⟩:Addr).add j)=some u:=by
 intro j u h;rw[Addr.add_lit]
 match j,h with
 | 0,h=>simp at h;subst h;simp[go_sem]
 | 1,h=>simp at h;subst h;simp[go_sem]
 | 2,h=>simp at h;subst h;simp[go_sem]
 | 3,h=>simp at h;subst h;simp[go_sem]
 | j+4,h=>simp at h
def B4 (w:World)(b:Nat)(v0 v1 v2 v3:Value):Prop:=b<w.heap.size/\(w.cell? ⟨b,0,none⟩=some v0/\w.cell? ⟨b,1,none⟩=some v1/\w.cell? ⟨b,2,none⟩=some v2/\w.cell? ⟨b,3,none⟩=some v3)/\
 w.frozen? ⟨b,0,none⟩=false/\w.frozen? ⟨b,1,none⟩=false/\w.frozen? ⟨b,2,none⟩=false/\w.frozen? ⟨b,3,none⟩=false
theorem B4.below {w w':World}{n b:Nat}{v0:Value}(h:B4 w b v0 v1 v2 v3)(c:Below n w w')(d:b<n):B4 w' b v0 v1 v2 v3:=by
 obtain⟨q,⟨g,i,m,e⟩,j,f,l,k⟩:=h;refine⟨A51 q c.size,⟨(c.cell (p:=⟨b,0,none⟩) d).trans g,(c.cell (p:=⟨b,1,none⟩) d).trans i,(c.cell (p:=⟨b,2,none⟩) d).trans m,(c.cell (p:=⟨b,3,none⟩) d).trans e⟩,?_⟩;exact⟨(c.frozen (p:=⟨b,0,none⟩) d).trans j,(c.frozen (p:=⟨b,1,none⟩) d).trans f,(c.frozen (p:=⟨b,2,none⟩) d).trans l,(c.frozen (p:=⟨b,3,none⟩) d).trans k⟩
theorem B4.set3 {w:World}{b:Nat}{v0:Value}(h:B4 w b v0 v1 v2 v3)(u:Value):B4 (w.setCell ⟨b,3,none⟩ u) b v0 v1 v2 u:=by
 obtain⟨l,⟨e,f,k,c⟩,g,d,j,i⟩:=h;exact⟨A51 l (J9 _ _ _),⟨(Cj omz).trans e,(Cj omz).trans f,(Cj omz).trans k,Gh c⟩,Nk.trans g,Nk.trans d,Nk.trans j,Nk.trans i⟩
theorem B4.setO {w:World}{b c o:Nat}{v0:Value}(h:B4 w b v0 v1 v2 v3)(d:b≠c)(u:Value):B4 (w.setCell ⟨c,o,none⟩ u) b v0 v1 v2 v3:=by
 obtain⟨n,⟨g,i,m,e⟩,j,f,l,k⟩:=h;exact⟨A51 n (J9 _ _ _),⟨(Bq d).trans g,(Bq d).trans i,(Bq d).trans m,(Bq d).trans e⟩,Nk.trans j,Nk.trans f,Nk.trans l,Nk.trans k⟩
theorem Afq {w:World}{K:Act->World->Prop}{Q:Exit->Act->World->Prop}
  (hg:o.guard=none) (s x:Operand) (hop:o.op=.call {callee:=.builtin .append,args:=#[s,x],argTypes:=#[41,41]})
  (base lo:Nat) (ra:Option Addr) (rc:Nat) (ms ks:List Aq) (ad:Option Addr) (c:Nat) (hs:a.eval s=.slice ra ms.length rc) (hx:a.eval x=.slice ad ks.length c)
  (hrow:L9 w base (.slice ra ms.length rc) ms) (O:0<ks.length->∃p,ad=some p/\∀j u,(Io ks)[j]?=some u->w.cell? (p.add j)=some u)
  (r:∀m∈ks,MOk w base m) (I:(Value.slice ra ms.length rc::(Fp ms++Fp ks)).Pairwise Aside) (hl:ms.length+ks.length<=1000000) (A:base<=w.heap.size) (t:lo<=w.heap.size) (n:∀k,(Value.slice ra ms.length rc).ownBlock=some k->lo<=k)
  (q:∀i d b,L9 b base (.slice i (ms.length+ks.length) d) (ms++ks)->Below lo w b->(∀k,(Value.slice i (ms.length+ks.length) d).ownBlock=some k->lo<=k)->K (a.put o.dst (.slice i (ms.length+ks.length) d)) b):
  if Region.wanted o (yielded ops a.tmps)=true then Oper.wp prog o a w K Q else E:=by
 obtain⟨G,hi,M,C,N⟩:=info_parts Aig;by_cases hd:ks.length=0
 ·have J:=List.length_eq_zero_iff.1 hd
  subst J;have B:Region.wanted o (yielded ops a.tmps)=true:=by simp[Region.wanted,hg]
  rw[if_pos B];have hcap:ms.length<=rc:=by
   rcases hrow.1.2 with⟨l,f⟩ | ⟨g,d,cur,l,_,_,H,_⟩
   ·rw[f];exact A7l _
   ·simp only[Value.slice.injEq] at l
    rw[l.2.2];exact H
  have hk2:=q ra rc w yDd (Below.refl _ _) (by simpa using n);simp only[A54,A75] at hk2 hx;unfold Oper.wp execOp;cases ad
  ·exact zh0
  ·exact zc0
 ·obtain⟨p,rfl,D⟩:=O omz
  refine Eb hg s x _ hop base 43 G _ 4 64 underlying41 hi M C N rfl dcz _ _ (Io ms) hs hrow.1 _ _ _ (Io ks) hx (Agz ks) D (Aeg r) yAe omz A ?_;intro P b f y v;obtain⟨F,z,L⟩:=Aj f;subst L;refine q F z b (hrow.add r I f y v) ((Below.refl _ _).grown y t n) (λk hk2=>?_);rcases v with e | e
  ·exact n k (by rw[<-e];exact hk2)
  ·rw[e] at hk2
   cases hk2;exact t
theorem Ql {w:World}{Q:Exit->Act->World->Prop}
  (hg:o.guard=none) (s x:Operand) (z:o.op=.call {callee:=.builtin .append,args:=#[s,x],argTypes:=#[41,41]})
  (base lo:Nat) (f:Option Addr) (i:Nat) (b ks:List Aq) (ad:Option Addr) (c:Nat) (t:a.eval s=.slice f b.length i) (hx:a.eval x=.slice ad ks.length c)
  (r:L9 w base (.slice f b.length i) b) (F:0<ks.length->∃p,ad=some p/\∀j u,(Io ks)[j]?=some u->w.cell? (p.add j)=some u)
  (q:∀m∈ks,MOk w base m) (B:(Value.slice f b.length i::(Fp b++Fp ks)).Pairwise Aside) (hl:b.length+ks.length<=1000000) (n:base<=w.heap.size) (C:lo<=w.heap.size) (y:∀k,(Value.slice f b.length i).ownBlock=some k->lo<=k)
  (h:∀e d g,L9 g base (.slice e (b.length+ks.length) d) (b++ks)->Below lo w g->(∀k,(Value.slice e (b.length+ks.length) d).ownBlock=some k->lo<=k)->wpList prog ops Q rest (a.put o.dst (.slice e (b.length+ks.length) d)) g):
  wpList prog ops Q (o::rest) a w:=by
 refine wpList_plain hg λK l=>?_
 have v:Region.wanted o (yielded #[] a.tmps)=true:=by simp[Region.wanted,hg]
 have:=Afq (ops:=#[]) (K:=K) (Q:=Q) (E:=True) hg s x z base lo f i b ks ad c t hx r F q B hl n C y (λe d g A G D=>l _ _ (h e d g A G D))
 rwa [if_pos v] at this
def Py (k:Int)(m:Aq):List Aq:=if m.kind=k then m.kids else [m]
theorem Ayb {B:Nat}(b:B=W.heap.size){t:TypeId}:∀j u,[u0,u1,u2,u3][j]?=some u->(W.alloc (.cells #[u0,u1,u2,u3] t)).cell? ((⟨B,0,none⟩:Addr).add j)=some u:=by
 subst b;exact cells4
set_option maxHeartbeats 2000000 in
set_option maxRecDepth 100000 in
theorem A24 (k:Int)(B base lo:Nat)(v:Option Addr)(x:Nat)(f:List Aq)(l r:Int)(d:List Stil.Dev)(t:Option Addr)(s:Nat)(i:Option Addr)(q:Nat)(b:List Aq)(w:World)
  (aa:w.cell? ⟨B,0,none⟩=some (.int .i64 k)) (hB:B<w.heap.size) (G:L9 w base (.slice v f.length x) f) (F:J7 w base ⟨l,r,d, .slice t d.length s, .slice i b.length q,b⟩)
  (J:(Value.slice v f.length x::(Fp f++(Aq.mk l r d (.slice t d.length s) (.slice i b.length q) b).vals)).Pairwise Aside) (hl:f.length+b.length+1<=1000000) (ac:base<=w.heap.size) (Z:lo<=w.heap.size) (H:∀k,(Value.slice v f.length x).ownBlock=some k->lo<=k):
  Calls prog 112 #[.slice v f.length x, .agg #[.int .i64 l, .int .i64 r, .slice t d.length s, .slice i b.length q], .pointer (some ⟨B,0,none⟩)] w λe Y=>∃(a:Option Addr) (c:Nat),e=.returned (.slice a (f.length+(Py k ⟨l,r,d, .slice t d.length s, .slice i b.length q,b⟩).length) c)/\L9 Y base (.slice a (f.length+(Py k ⟨l,r,d, .slice t d.length s, .slice i b.length q,b⟩).length) c) (f++Py k ⟨l,r,d, .slice t d.length s, .slice i b.length q,b⟩)/\Below lo w Y/\∀j,(Value.slice a (f.length+(Py k ⟨l,r,d, .slice t d.length s, .slice i b.length q,b⟩).length) c).ownBlock=some j->lo<=j:=by
 by_cases I:l=k
 ·have T:=hid (λW (h:Below w.heap.size w W)=>G.below h)
  have K:Hid (∀W,Below w.heap.size w W->∀m∈b,MOk W base m):=λW h m Q=>(F.kids.1 m Q).below h
  have R:Hid ((Value.slice v f.length x::(Fp f++Fp b)).Pairwise Aside):=by
   refine List.Pairwise.sublist (List.Sublist.cons_cons _ (List.Sublist.append (A7m _) ?_)) J;rw[Aq.vals_eq];exact List.Sublist.cons _ (List.Sublist.cons _ (A7m _))
  have yl:Hid (∀W,Below w.heap.size w W->0<b.length->∃p,i=some p/\∀j u,(Io b)[j]?=some u->W.cell? (p.add j)=some u):=by
   intro W hW hz;have V:=ownsRow_below ((Jb _ _ _).1 F.1).2.1 hW;simp only at V;obtain⟨g,c,U,_,_,_,ab⟩:=Bo V hz;simp only[Value.slice.injEq] at U;exact⟨⟨g,0,none⟩,U.1,λj u hu=>by rw[Addr.add_lit];simpa using ab j u hu⟩
  have O:f.length+b.length<=1000000:=omz
  have D:Py k ⟨l,r,d, .slice t d.length s, .slice i b.length q,b⟩=b:=if_pos I;rw[D];clear D;have L:=hid H;clear G F J hl H;rw[<-I] at aa;go_enter func112,ntmps112
  go_wp2_with (at_builtin;refine Ql rfl _ _ rfl base lo v x f b i q rfl rfl (T _ blA) (yl _ blA) (K _ blA) R O yAd yAd L.out ?_;intro A y X z P C;have N:=hid z;have M:=hid C;clear z C;have S:=(show Below lo w _ from(show Below w.heap.size w _ from blA).mono Z).trans P)
  go_ret;exact⟨A,y,rfl,N.out,S,M.out⟩
 ·have T:=hid (λW (h:Below w.heap.size w W)=>G.below h)
  have K:Hid (∀W,Below w.heap.size w W->∀m∈[(Aq.mk l r d (.slice t d.length s) (.slice i b.length q) b)],MOk W base m):=λW h m Q=>by rw[List.mem_singleton.1 Q];exact F.1.below h
  have R:Hid ((Value.slice v f.length x::(Fp f++Fp [(Aq.mk l r d (.slice t d.length s) (.slice i b.length q) b)])).Pairwise Aside):=by show List.Pairwise _ _;rw[Kt];exact J
  have O:f.length+[(Aq.mk l r d (.slice t d.length s) (.slice i b.length q) b)].length<=1000000:=by simp only[A62];omega
  have D:Py k ⟨l,r,d, .slice t d.length s, .slice i b.length q,b⟩=[(Aq.mk l r d (.slice t d.length s) (.slice i b.length q) b)]:=if_neg I;rw[D];clear D;have L:=hid H;have ae:(l==k)=false:=by rw[A64];exact I
  clear G F J hl H;go_enter func112,ntmps112
  go_wp2_with (at_builtin;refine Ql rfl _ _ rfl base lo v x f [Aq.mk l r d (.slice t d.length s) (.slice i b.length q) b] _ 1 rfl rfl (T _ blA) (λ_=>⟨_,rfl,by exact Ayb spz⟩) (K _ blA) R O yAd yAd L.out ?_;intro A y X z P C;have N:Hid (L9 X base (.slice A (f.length+1) y) (f++[Aq.mk l r d (.slice t d.length s) (.slice i b.length q) b])):=z;have M:Hid (∀k,(Value.slice A (f.length+1) y).ownBlock=some k->lo<=k):=C;clear z C;have S:=(show Below lo w _ from(show Below w.heap.size w _ from blA).mono Z).trans P)
  go_ret;exact⟨A,y,rfl,N.out,S,M.out⟩
end Go.Proofs.YtnpfcnolmkanfaaGreatDoor
