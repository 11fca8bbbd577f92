import Derived.Test.YtobbpffcggchmaaGreatDoorGp
import Derived.OneCell
import Derived.Test.YtobbpffcggchmaaGreatDoorGU
import Derived.Test.YtobbpffcggchmaaGreatDoorKe
import Derived.Test.YtobbpffcggchmaaGreatDoorGY
namespace Go.Proofs.YtobbpffcggchmaaGreatDoor
open Tryz
open Go.RowKit Go.Sort Go.BigFrame
def Afm (w:World)(base:Nat)(n:Stil.Net)(e:Ending):Prop:=∃(k op:Int) (b:List Stil.Dev) (f:Option Addr) (d:Nat) (h:Option Addr) (g:Nat) (c:List Ah),e=.returned (.agg #[.int .i64 k, .int .i64 op, .slice f b.length d, .slice h c.length g])/\
 I7 w base ⟨k,op,b, .slice f b.length d, .slice h c.length g,c⟩/\(Ah.mk k op b (.slice f b.length d) (.slice h c.length g) c).net=n
theorem MOk.set {w:World}{base:Nat}{m:Ah}(h:MOk w base m){a:Addr}(b:a.block<base)(u:Value):MOk (w.setCell a u) base m:=MOk.map m h (λ_ _ _ _ _ _ c=>ownsRow_setCell_below c b u)
theorem MOk.set4 {w:World}{base b o1 o2 o3 o4:Nat}{m:Ah}{u1 u2 u3 u4:Value}(h:MOk w base m)(c:b<base):MOk ((((w.setCell ⟨b,o1,none⟩ u1).setCell ⟨b,o2,none⟩ u2).setCell ⟨b,o3,none⟩ u3).setCell ⟨b,o4,none⟩ u4) base m:=
 MOk.set (MOk.set (MOk.set (MOk.set h (a:=⟨b,o1,none⟩) c u1) (a:=⟨b,o2,none⟩) c u2) (a:=⟨b,o3,none⟩) c u3) (a:=⟨b,o4,none⟩) c u4
end Go.Proofs.YtobbpffcggchmaaGreatDoor
namespace Stil
end Stil
namespace Go.Proofs.YtobbpffcggchmaaGreatDoor
open Tryz
open Go.RowKit Go.Sort Go.BigFrame
variable {E:Prop}{W w':World}{a:Act}{base base':Nat}{o:Oper}{ops:Array Oper}{rest:List Oper}{u0 u1 u2 u3 v v' v1 v2 v3 x:Value}
theorem Y0 {w:World}{b:List Ah}(c:∀m∈b,MOk w base m):∀u∈Fp b,u.oneCell'=true:=by
 intro u hu;obtain⟨m,d,hu⟩:=List.mem_flatMap.1 hu;have h:=(Ee w base m).1 (c m d);obtain⟨j,g,f⟩:=Ac h.1;obtain⟨k,i,e⟩:=Ac h.2.1;simp only[Ah.cells,A9o,Bch,Bax] at hu;rcases hu with rfl | rfl | rfl | rfl
 ·rfl
 ·rfl
 ·rw[f];rfl
 ·rw[e];rfl
theorem zv {p:Prop}(h:p:=by
 rename_i t1
 have e:Sem.run prog (Builtin.append_ #[28,28] o.type #[.slice ra ms.length rc, .slice (some t1) 0 c]) w=.ok (.slice ra ms.length rc) w:=by cases ra<;>simp[Builtin.append_,go_sem,hcap]
 simp only[hop,resolve,invoke,builtin,Sem.run_bind,Sem.run_pure,Result.andThen_ok,Bad,A9l,A97,hs,hx,e];exact hk2):p:=h
theorem zw {p:Prop}(h:p:=by
 have e:Sem.run prog (Builtin.append_ #[28,28] o.type #[.slice ra ms.length rc, .slice none 0 c]) w=.ok (.slice ra ms.length rc) w:=by cases ra<;>simp[Builtin.append_,go_sem,hcap]
 simp only[hop,resolve,invoke,builtin,Sem.run_bind,Sem.run_pure,Result.andThen_ok,Bad,A9l,A97,hs,hx,e];exact hk2):p:=h
theorem Acs {w:World}{K:Act->World->Prop}{Q:Exit->Act->World->Prop}
  (hg:o.guard=none) (s x:Operand) (hop:o.op=.call {callee:=.builtin .append,args:=#[s,x],argTypes:=#[28,28]})
  (base:Nat) (ra:Option Addr) (rc:Nat) (ms b:List Ah) (ad:Option Addr) (c:Nat) (hs:a.eval s=.slice ra ms.length rc) (hx:a.eval x=.slice ad b.length c)
  (hrow:Gq w base (.slice ra ms.length rc) ms) (t:0<b.length->∃p,ad=some p/\∀j u,(Fp b)[j]?=some u->w.cell? (p.add j)=some u)
  (q:∀m∈b,MOk w base m) (H:(Value.slice ra ms.length rc::(Bq ms++Bq b)).Pairwise Aside) (hl:ms.length+b.length<=1000000) (l:base<=w.heap.size)
  (n:∀r i w',Gq w' base (.slice r (ms.length+b.length) i) (ms++b)->Below base w w'->K (a.put o.dst (.slice r (ms.length+b.length) i)) w'):
  if Region.wanted o (yielded ops a.tmps)=true then Oper.wp prog o a w K Q else E:=by
 obtain⟨D,hi,y,F,G⟩:=info_parts Ai3;by_cases hd:b.length=0
 ·have N:=List.length_eq_zero_iff.1 hd
  subst N;have I:Region.wanted o (yielded ops a.tmps)=true:=by simp[Region.wanted,hg]
  rw[if_pos I];have hcap:ms.length<=rc:=by
   rcases hrow.1.2 with⟨f,d⟩ | ⟨g,i,cur,f,_,_,J,_⟩
   ·rw[d];exact Ban _
   ·simp only[Value.slice.injEq] at f
    rw[f.2.2];exact J
  have hk2:=n ra rc w yCf (Below.refl _ _);simp only[A85,Ba8] at hk2 hx;unfold Oper.wp execOp;cases ad
  ·exact zw
  ·exact zv
 ·obtain⟨p,rfl,A⟩:=t omz
  refine Eo hg s x _ hop base 30 D _ 4 64 underlying28 hi y F G rfl dcz _ _ (Fp ms) hs hrow.1 _ _ _ (Fp b) hx (X0 b) A (Y0 q) yAe omz l ?_;intro v' w' d k M;obtain⟨L,z,C⟩:=Ac d;subst C;exact n L z w' (hrow.add q H d k M) ((Below.refl _ _).grown k l (λj B=>(hrow.1.lt j B).1))
theorem Zp {w:World}{Q:Exit->Act->World->Prop}
  (hg:o.guard=none) (s x:Operand) (l:o.op=.call {callee:=.builtin .append,args:=#[s,x],argTypes:=#[28,28]})
  (base:Nat) (g:Option Addr) (f:Nat) (b d:List Ah) (ad:Option Addr) (c:Nat) (y:a.eval s=.slice g b.length f) (hx:a.eval x=.slice ad d.length c)
  (B:Gq w base (.slice g b.length f) b) (k:0<d.length->∃p,ad=some p/\∀j u,(Fp d)[j]?=some u->w.cell? (p.add j)=some u)
  (A:∀m∈d,MOk w base m) (n:(Value.slice g b.length f::(Bq b++Bq d)).Pairwise Aside) (hl:b.length+d.length<=1000000) (t:base<=w.heap.size)
  (h:∀i e w',Gq w' base (.slice i (b.length+d.length) e) (b++d)->Below base w w'->wpList prog ops Q rest (a.put o.dst (.slice i (b.length+d.length) e)) w'):
  wpList prog ops Q (o::rest) a w:=by
 refine wpList_plain hg λK z=>?_
 have q:Region.wanted o (yielded #[] a.tmps)=true:=by simp[Region.wanted,hg]
 have:=Acs (ops:=#[]) (K:=K) (Q:=Q) (E:=True) hg s x l base g f b d ad c y hx B k A n hl t (λi e w' C r=>z _ _ (h i e w' C r))
 rwa [if_pos q] at this
theorem Gq.single {w:World}{m:Ah}(h:I7 w base m)(c:base<=w.heap.size):Gq (w.alloc (.cells #[.int .i64 m.kind, .int .i64 m.op,m.av,m.kv] 30)) base (.slice (some ⟨w.heap.size,0,none⟩) 1 1) [m]:=by
 refine⟨?_,λx f=>?_,?_⟩
 ·exact World.ownsRow_lit w #[.int .i64 m.kind, .int .i64 m.op,m.av,m.kv] 1 c yAe rfl
 ·rw[List.mem_singleton.1 f];exact h.1.below (Aa _ _)
 ·rw[Dt,A9p]
  refine⟨λy d=>(Eg (n:=w.heap.size) (λk b=>(h.1.lt m y d k b).2) (λk b=>?_)).symm,h.2⟩;have e:w.heap.size=k:=by simpa[Value.ownBlock] using b
  omega
theorem Nu {p q:Addr}:(W.setCell p v).frozen? q=W.frozen? q:=by simp[go_sem]
theorem cells4 {t:TypeId}:∀j u,[u0,u1,u2,u3][j]?=some u->(W.alloc (.cells #[u0,u1,u2,u3] t)).cell? ((⟨W.heap.size,0,none⟩:Addr).add j)=some u:=by
 intro j u h;rw[Addr.add_lit]
 match j,h with
 | 0,h=>simp at h;subst h;simp[go_sem]
 | 1,h=>simp at h;subst h;simp[go_sem]
 | 2,h=>simp at h;subst h;simp[go_sem]
 | 3,h=>simp at h;subst h;simp[go_sem]
 | j+4,h=>simp at h
def B4 (w:World)(b:Nat)(v0 v1 v2 v3:Value):Prop:=b<w.heap.size/\(w.cell? ⟨b,0,none⟩=some v0/\w.cell? ⟨b,1,none⟩=some v1/\w.cell? ⟨b,2,none⟩=some v2/\w.cell? ⟨b,3,none⟩=some v3)/\
 w.frozen? ⟨b,0,none⟩=false/\w.frozen? ⟨b,1,none⟩=false/\w.frozen? ⟨b,2,none⟩=false/\w.frozen? ⟨b,3,none⟩=false
theorem B4.below {w:World}{n b:Nat}{v0:Value}(h:B4 w b v0 v1 v2 v3)(c:Below n w w')(d:b<n):B4 w' b v0 v1 v2 v3:=by
 obtain⟨q,⟨l,f,i,j⟩,e,g,m,k⟩:=h;refine⟨A82 q c.size,⟨(c.cell (p:=⟨b,0,none⟩) d).trans l,(c.cell (p:=⟨b,1,none⟩) d).trans f,(c.cell (p:=⟨b,2,none⟩) d).trans i,(c.cell (p:=⟨b,3,none⟩) d).trans j⟩,?_⟩;exact⟨(c.frozen (p:=⟨b,0,none⟩) d).trans e,(c.frozen (p:=⟨b,1,none⟩) d).trans g,(c.frozen (p:=⟨b,2,none⟩) d).trans m,(c.frozen (p:=⟨b,3,none⟩) d).trans k⟩
theorem B4.set3 {w:World}{b:Nat}{v0:Value}(h:B4 w b v0 v1 v2 v3)(u:Value):B4 (w.setCell ⟨b,3,none⟩ u) b v0 v1 v2 u:=by
 obtain⟨l,⟨j,d,f,g⟩,c,e,k,i⟩:=h;exact⟨A82 l (Kt _ _ _),⟨(C9 omz).trans j,(C9 omz).trans d,(C9 omz).trans f,Gg g⟩,Nu.trans c,Nu.trans e,Nu.trans k,Nu.trans i⟩
theorem B4.setO {w:World}{b c o:Nat}{v0:Value}(h:B4 w b v0 v1 v2 v3)(d:b≠c)(u:Value):B4 (w.setCell ⟨c,o,none⟩ u) b v0 v1 v2 v3:=by
 obtain⟨n,⟨l,f,i,j⟩,e,g,m,k⟩:=h;exact⟨A82 n (Kt _ _ _),⟨(Bz d).trans l,(Bz d).trans f,(Bz d).trans i,(Bz d).trans j⟩,Nu.trans e,Nu.trans g,Nu.trans m,Nu.trans k⟩
theorem Au4 (b x:Value)(hx:x∈Value.slice none 0 0::Bq []):Aside b x:=by
 rcases List.mem_cons.1 hx with rfl | hx
 ·exact(Le _).symm
 ·cases hx
theorem Af0 {w:World}{K:Act->World->Prop}{Q:Exit->Act->World->Prop}
  (hg:o.guard=none) (s x:Operand) (hop:o.op=.call {callee:=.builtin .append,args:=#[s,x],argTypes:=#[28,28]})
  (base lo:Nat) (ra:Option Addr) (rc:Nat) (ms b:List Ah) (ad:Option Addr) (c:Nat) (hs:a.eval s=.slice ra ms.length rc) (hx:a.eval x=.slice ad b.length c)
  (hrow:Gq w base (.slice ra ms.length rc) ms) (A:0<b.length->∃p,ad=some p/\∀j u,(Fp b)[j]?=some u->w.cell? (p.add j)=some u)
  (y:∀m∈b,MOk w base m) (J:(Value.slice ra ms.length rc::(Bq ms++Bq b)).Pairwise Aside) (hl:ms.length+b.length<=1000000) (M:base<=w.heap.size) (q:lo<=w.heap.size) (i:∀k,(Value.slice ra ms.length rc).ownBlock=some k->lo<=k)
  (t:∀n d w',Gq w' base (.slice n (ms.length+b.length) d) (ms++b)->Below lo w w'->(∀k,(Value.slice n (ms.length+b.length) d).ownBlock=some k->lo<=k)->K (a.put o.dst (.slice n (ms.length+b.length) d)) w'):
  if Region.wanted o (yielded ops a.tmps)=true then Oper.wp prog o a w K Q else E:=by
 obtain⟨G,hi,B,H,I⟩:=info_parts Ai3;by_cases hd:b.length=0
 ·have P:=List.length_eq_zero_iff.1 hd
  subst P;have L:Region.wanted o (yielded ops a.tmps)=true:=by simp[Region.wanted,hg]
  rw[if_pos L];have hcap:ms.length<=rc:=by
   rcases hrow.1.2 with⟨l,f⟩ | ⟨g,d,cur,l,_,_,N,_⟩
   ·rw[f];exact Ban _
   ·simp only[Value.slice.injEq] at l
    rw[l.2.2];exact N
  have hk2:=t ra rc w yCf (Below.refl _ _) (by simpa using i);simp only[A85,Ba8] at hk2 hx;unfold Oper.wp execOp;cases ad
  ·exact zw
  ·exact zv
 ·obtain⟨p,rfl,D⟩:=A omz
  refine Eo hg s x _ hop base 30 G _ 4 64 underlying28 hi B H I rfl dcz _ _ (Fp ms) hs hrow.1 _ _ _ (Fp b) hx (X0 b) D (Y0 y) yAe omz M ?_;intro v' w' f r z;obtain⟨O,C,F⟩:=Ac f;subst F;refine t O C w' (hrow.add y J f r z) ((Below.refl _ _).grown r q i) (λk hk2=>?_);rcases z with e | e
  ·exact i k (by rw[<-e];exact hk2)
  ·rw[e] at hk2
   cases hk2;exact q
theorem Ip {w:World}{Q:Exit->Act->World->Prop}
  (hg:o.guard=none) (s x:Operand) (r:o.op=.call {callee:=.builtin .append,args:=#[s,x],argTypes:=#[28,28]})
  (base lo:Nat) (g:Option Addr) (f:Nat) (b d:List Ah) (ad:Option Addr) (c:Nat) (B:a.eval s=.slice g b.length f) (hx:a.eval x=.slice ad d.length c)
  (F:Gq w base (.slice g b.length f) b) (n:0<d.length->∃p,ad=some p/\∀j u,(Fp d)[j]?=some u->w.cell? (p.add j)=some u)
  (D:∀m∈d,MOk w base m) (t:(Value.slice g b.length f::(Bq b++Bq d)).Pairwise Aside) (hl:b.length+d.length<=1000000) (A:base<=w.heap.size) (q:lo<=w.heap.size) (l:∀k,(Value.slice g b.length f).ownBlock=some k->lo<=k)
  (h:∀i e w',Gq w' base (.slice i (b.length+d.length) e) (b++d)->Below lo w w'->(∀k,(Value.slice i (b.length+d.length) e).ownBlock=some k->lo<=k)->wpList prog ops Q rest (a.put o.dst (.slice i (b.length+d.length) e)) w'):
  wpList prog ops Q (o::rest) a w:=by
 refine wpList_plain hg λK C=>?_
 have y:Region.wanted o (yielded #[] a.tmps)=true:=by simp[Region.wanted,hg]
 have:=Af0 (ops:=#[]) (K:=K) (Q:=Q) (E:=True) hg s x r base lo g f b d ad c B hx F n D t hl A q l (λi e w' G z H=>C _ _ (h i e w' G z H))
 rwa [if_pos y] at this
def Qg (k:Int)(m:Ah):List Ah:=if m.kind=k then m.kids else [m]
theorem Az4 {B:Nat}(b:B=W.heap.size){t:TypeId}:∀j u,[u0,u1,u2,u3][j]?=some u->(W.alloc (.cells #[u0,u1,u2,u3] t)).cell? ((⟨B,0,none⟩:Addr).add j)=some u:=by
 subst b;exact cells4
set_option maxHeartbeats 2000000 in
set_option maxRecDepth 100000 in
theorem A5k (k:Int)(B base lo:Nat)(y:Option Addr)(t:Nat)(e:List Ah)(f q:Int)(d:List Stil.Dev)(s:Option Addr)(r:Nat)(i:Option Addr)(l:Nat)(b:List Ah)(w:World)
  (ab:w.cell? ⟨B,0,none⟩=some (.int .i64 k)) (hB:B<w.heap.size) (K:Gq w base (.slice y e.length t) e) (F:I7 w base ⟨f,q,d, .slice s d.length r, .slice i b.length l,b⟩)
  (I:(Value.slice y e.length t::(Bq e++(Ah.mk f q d (.slice s d.length r) (.slice i b.length l) b).vals)).Pairwise Aside) (hl:e.length+b.length+1<=1000000) (af:base<=w.heap.size) (V:lo<=w.heap.size) (H:∀k,(Value.slice y e.length t).ownBlock=some k->lo<=k):
  Calls prog 122 #[.slice y e.length t, .agg #[.int .i64 f, .int .i64 q, .slice s d.length r, .slice i b.length l], .pointer (some ⟨B,0,none⟩)] w λac w'=>∃(a:Option Addr) (c:Nat),ac=.returned (.slice a (e.length+(Qg k ⟨f,q,d, .slice s d.length r, .slice i b.length l,b⟩).length) c)/\Gq w' base (.slice a (e.length+(Qg k ⟨f,q,d, .slice s d.length r, .slice i b.length l,b⟩).length) c) (e++Qg k ⟨f,q,d, .slice s d.length r, .slice i b.length l,b⟩)/\Below lo w w'/\∀j,(Value.slice a (e.length+(Qg k ⟨f,q,d, .slice s d.length r, .slice i b.length l,b⟩).length) c).ownBlock=some j->lo<=j:=by
 by_cases J:f=k
 ·have N:=hid (λW (h:Below w.heap.size w W)=>K.below h)
  have L:Hid (∀W,Below w.heap.size w W->∀m∈b,MOk W base m):=λW h m T=>(F.kids.1 m T).below h
  have U:Hid ((Value.slice y e.length t::(Bq e++Bq b)).Pairwise Aside):=by
   refine List.Pairwise.sublist (List.Sublist.cons_cons _ (List.Sublist.append (Bao _) ?_)) I;rw[Ah.vals_eq];exact List.Sublist.cons _ (List.Sublist.cons _ (Bao _))
  have aa:Hid (∀W,Below w.heap.size w W->0<b.length->∃p,i=some p/\∀j u,(Fp b)[j]?=some u->W.cell? (p.add j)=some u):=by
   intro W hW hz;have X:=ownsRow_below ((Ee _ _ _).1 F.1).2.1 hW;simp only at X;obtain⟨g,c,Z,_,_,_,ae⟩:=Cf X hz;simp only[Value.slice.injEq] at Z;exact⟨⟨g,0,none⟩,Z.1,λj u hu=>by rw[Addr.add_lit];simpa using ae j u hu⟩
  have M:e.length+b.length<=1000000:=omz
  have D:Qg k ⟨f,q,d, .slice s d.length r, .slice i b.length l,b⟩=b:=if_pos J;rw[D];clear D;have P:=hid H;clear K F I hl H;rw[<-J] at ab;go_enter func122,ntmps122
  go_wp2_with (at_builtin;refine Ip rfl _ _ rfl base lo y t e b i l rfl rfl (N _ blA) (aa _ blA) (L _ blA) U M yAb yAb P.out ?_;intro C z Y G Q A;have O:=hid G;have R:=hid A;clear G A;have S:=(show Below lo w _ from(show Below w.heap.size w _ from blA).mono V).trans Q)
  go_ret;exact⟨C,z,rfl,O.out,S,R.out⟩
 ·have N:=hid (λW (h:Below w.heap.size w W)=>K.below h)
  have L:Hid (∀W,Below w.heap.size w W->∀m∈[(Ah.mk f q d (.slice s d.length r) (.slice i b.length l) b)],MOk W base m):=λW h m T=>by rw[List.mem_singleton.1 T];exact F.1.below h
  have U:Hid ((Value.slice y e.length t::(Bq e++Bq [(Ah.mk f q d (.slice s d.length r) (.slice i b.length l) b)])).Pairwise Aside):=by show List.Pairwise _ _;rw[Dt];exact I
  have M:e.length+[(Ah.mk f q d (.slice s d.length r) (.slice i b.length l) b)].length<=1000000:=by simp only[A93];omega
  have D:Qg k ⟨f,q,d, .slice s d.length r, .slice i b.length l,b⟩=[(Ah.mk f q d (.slice s d.length r) (.slice i b.length l) b)]:=if_neg J;rw[D];clear D;have P:=hid H;have xG:(f==k)=false:=by rw[A95];exact J
  clear K F I hl H;go_enter func122,ntmps122
  go_wp2_with (at_builtin;refine Ip rfl _ _ rfl base lo y t e [Ah.mk f q d (.slice s d.length r) (.slice i b.length l) b] _ 1 rfl rfl (N _ blA) (λ_=>⟨_,rfl,by exact Az4 spz⟩) (L _ blA) U M yAb yAb P.out ?_;intro C z Y G Q A;have O:Hid (Gq Y base (.slice C (e.length+1) z) (e++[Ah.mk f q d (.slice s d.length r) (.slice i b.length l) b])):=G;have R:Hid (∀k,(Value.slice C (e.length+1) z).ownBlock=some k->lo<=k):=A;clear G A;have S:=(show Below lo w _ from(show Below w.heap.size w _ from blA).mono V).trans Q)
  go_ret;exact⟨C,z,rfl,O.out,S,R.out⟩
structure Fg where
 op:Int
 ds:List Stil.Dev
 av:Value
def Fg.elem (m:Fg):Stil.Elem:=⟨m.op,m.ds⟩
def Hq (es:List Fg):List Value:=es.map Fg.av
def Fg.cells (m:Fg):List Value:=[.int .i64 m.op,m.av]
def Jh (es:List Fg):List Value:=es.flatMap Fg.cells
theorem Ajg (a b:List Fg):Jh (a++b)=Jh a++Jh b:=by simp[Jh]
theorem Xg (a b:List Fg):Hq (a++b)=Hq a++Hq b:=by simp[Hq]
theorem Qh {es:List Fg}:x∈Hq es↔∃m∈es,m.av=x:=by simp[Hq]
theorem Ahv (es:List Fg):(Jh es).length=es.length*2:=by
 induction es with
 | nil=>rfl
 | cons m r b=>
  have e:Jh (m::r)=m.cells++Jh r:=rfl;rw[e,A83,b];simp[Fg.cells];omega
theorem Abp:∀(b:List Fg) (i:Nat) (h:i<b.length),(Jh b)[i*2]?=some (.int .i64 b[i].op)/\(Jh b)[i*2+1]?=some b[i].av
 | [],_,h=>by simp at h
 | m::r,0,_=>⟨rfl,rfl⟩
 | m::r,i+1,h=>by
  obtain⟨c,d⟩:=Abp r i yBc;have e:Jh (m::r)=.int .i64 m.op::m.av::Jh r:=rfl;have f:(i+1)*2=i*2+1+1:=omz
  rw[e,f];exact⟨by simpa using c,by simpa using d⟩
def EOk (w:World)(base:Nat)(m:Fg):Prop:=w.ownsRow base 34 3 m.av m.ds.length (Am m.ds)
def Yb (w:World)(base:Nat)(v:Value)(es:List Fg):Prop:=w.ownsRow base 27 2 v es.length (Jh es)/\(∀m∈es,EOk w base m)/\(v::Hq es).Pairwise Aside
theorem Yb.nil (w:World)(base:Nat):Yb w base (.slice none 0 0) []:=⟨World.ownsRow_nil _ _ _ _,(λm b=>by cases b),Baw _ _⟩
theorem Yb.below {w:World}{es:List Fg}(h:Yb w base v es)(b:Below w.heap.size w w'):Yb w' base v es:=⟨ownsRow_below h.1 b,λm c=>ownsRow_below (h.2.1 m c) b,h.2.2⟩
theorem Yb.le {w:World}{es:List Fg}(h:Yb w base v es)(hl:base'<=base):Yb w base' v es:=⟨Joins.ownsRow_le h.1 hl,λm b=>Joins.ownsRow_le (h.2.1 m b) hl,h.2.2⟩
theorem Yb.lt {w:World}{es:List Fg}(h:Yb w base v es):∀x∈v::Hq es,∀k,x.ownBlock=some k->base<=k/\k<w.heap.size:=by
 intro x b k c;rcases List.mem_cons.1 b with rfl | b
 ·exact h.1.lt k c
 ·obtain⟨m,d,rfl⟩:=Qh.1 b
  exact(h.2.1 m d).lt k c
theorem Yb.add {w:World}{es c:List Fg}(h:Yb w base v es)(l:∀m∈c,EOk w base m)(d:(v::(Hq es++Hq c)).Pairwise Aside)
  (n:w'.ownsRow base 27 2 v' (es.length+c.length) (Jh es++Jh c)) (hg:w.grownBy w' v.ownBlock) (r:v'.ownBlock=v.ownBlock\/v'.ownBlock=some w.heap.size):Yb w' base v' (es++c):=by
 rw[A9p] at d;have q:∀x∈Hq es++Hq c,∀k,x.ownBlock=some k->k<w.heap.size:=by
  intro x f k g;rcases List.mem_append.1 f with f | f
  ·exact(h.lt x (A87 _ f) k g).2
  ·obtain⟨m,b,rfl⟩:=Qh.1 f
   exact((l m b).lt k g).2
 refine⟨by rw[A83,Ajg];exact n,λm b=>?_,?_⟩
 ·rcases List.mem_append.1 b with b | b
  ·exact(h.2.1 m b).kept hg (d.1 _ (A9e _ (Qh.2 ⟨m,b,rfl⟩))).symm
  ·exact(l m b).kept hg (d.1 _ (A9b _ (Qh.2 ⟨m,b,rfl⟩))).symm
 ·rw[Xg,A9p]
  refine⟨λy j=>?_,d.2⟩;rcases r with e | e
  ·rcases d.1 y j with h0 | h0
   ·exact .inl yCb
   ·exact .inr yCb
  ·refine .inr (λi=>?_)
   rw[e] at i;have:=q y j _ i.symm
   omega
structure Dw where
 net:Ah
 cv:Value
 coils:List Fg
 kv:Value
 kids:List Dw
theorem Aac (P:Dw->Prop)(h:∀n d c b kids,(∀x∈kids,P x)->P ⟨n,d,c,b,kids⟩):∀n,P n
 | ⟨n,d,c,b,kids⟩=>h n d c b kids (λx _=>Aac P h x)
def Dw.arm:Dw->Stil.Arm
 | ⟨n,_,b,_,kids⟩=>⟨n.net,b.map Fg.elem,kids.map Dw.arm⟩
theorem Dw.arm_eq (m:Dw):m.arm=⟨m.net.net,m.coils.map Fg.elem,m.kids.map Dw.arm⟩:=by obtain⟨n,cv,b,kv,kids⟩:=m;rw[Dw.arm]
def Dw.vals:Dw->List Value
 | ⟨n,cv,b,kv,kids⟩=>n.vals++((cv::Hq b)++(kv::(kids.map Dw.vals).flatten))
def Il (b:List Dw):List Value:=(b.map Dw.vals).flatten
theorem Dw.vals_eq (m:Dw):m.vals=m.net.vals++((m.cv::Hq m.coils)++(m.kv::Il m.kids)):=by obtain⟨n,cv,b,kv,kids⟩:=m;rw[Dw.vals];rfl
theorem Am7 (a b:List Dw):Il (a++b)=Il a++Il b:=by simp[Il]
theorem Afk (m:Dw):Il [m]=m.vals:=by simp[Il]
theorem Nj {d:List Dw}:x∈Il d↔∃m∈d,x∈m.vals:=by
 simp only[Il,List.mem_flatten,A9n];constructor
 ·rintro⟨_,⟨m,b,rfl⟩,c⟩;exact⟨m,b,c⟩
 ·rintro⟨m,b,c⟩;exact⟨_,⟨m,b,rfl⟩,c⟩
def Dw.cells (m:Dw):List Value:=[.int .i64 m.net.kind, .int .i64 m.net.op,m.net.av,m.net.kv,m.cv,m.kv]
def Jl (b:List Dw):List Value:=b.flatMap Dw.cells
theorem Aj6 (a b:List Dw):Jl (a++b)=Jl a++Jl b:=by simp[Jl]
theorem Au8 (b:List Dw):(Jl b).length=b.length*6:=by
 induction b with
 | nil=>rfl
 | cons m r c=>
  have e:Jl (m::r)=m.cells++Jl r:=rfl;rw[e,A83,c];simp[Dw.cells];omega
theorem U0:∀(b:List Dw) (i:Nat) (h:i<b.length),(Jl b)[i*6]?=some (.int .i64 b[i].net.kind)/\(Jl b)[i*6+1]?=some (.int .i64 b[i].net.op)/\(Jl b)[i*6+2]?=some b[i].net.av/\(Jl b)[i*6+3]?=some b[i].net.kv/\(Jl b)[i*6+4]?=some b[i].cv/\(Jl b)[i*6+5]?=some b[i].kv
 | [],_,h=>by simp at h
 | m::r,0,_=>⟨rfl,rfl,rfl,rfl,rfl,rfl⟩
 | m::r,i+1,h=>by
  obtain⟨j,k,f,c,g,d⟩:=U0 r i yBc;have e:Jl (m::r)=.int .i64 m.net.kind::.int .i64 m.net.op::m.net.av::m.net.kv::m.cv::m.kv::Jl r:=rfl;have l:(i+1)*6=i*6+1+1+1+1+1+1:=omz
  rw[e,l];exact⟨by simpa using j,by simpa using k,by simpa using f,by simpa using c,by simpa using g,by simpa using d⟩
def AOk (w:World)(base:Nat):Dw->Prop
 | ⟨n,d,b,c,kids⟩=>MOk w base n/\(w.ownsRow base 27 2 d b.length (Jh b)/\∀m∈b,EOk w base m)/\w.ownsRow base 38 6 c kids.length (Jl kids)/\∀p∈kids.map (AOk w base),p
theorem Lj (w:World)(base:Nat)(m:Dw):AOk w base m↔MOk w base m.net/\(w.ownsRow base 27 2 m.cv m.coils.length (Jh m.coils)/\∀x∈m.coils,EOk w base x)/\w.ownsRow base 38 6 m.kv m.kids.length (Jl m.kids)/\∀x∈m.kids,AOk w base x:=by
 obtain⟨n,d,c,b,kids⟩:=m;rw[AOk,Stil.all_map]
theorem AOk.map {w:World}(m:Dw)(h:AOk w base m)(c:∀(e:TypeId) (s n:Nat) (v:Value) (b:List Value),v∈m.vals->w.ownsRow base e s v n b->w'.ownsRow base' e s v n b):AOk w' base' m:=by
 revert h c
 refine Aac (λm=>AOk w base m->(∀(e:TypeId) (s n:Nat) (v:Value) (b:List Value),v∈m.vals->w.ownsRow base e s v n b->w'.ownsRow base' e s v n b)->AOk w' base' m) ?_ m;intro n t y u kids l h c;rw[Lj] at h ⊢;simp only[Dw.vals_eq] at c;obtain⟨q,⟨i,r⟩,g,j⟩:=h;refine⟨MOk.map n q (λe s k v b f=>c e s k v b (A9e _ f)),⟨c _ _ _ _ _ spz i,λx d=>c _ _ _ _ _ ?_ (r x d)⟩,c _ _ _ _ _ spz g,λx d=>l x d (j x d) (λe s k v b f=>c e s k v b ?_)⟩
 ·exact A9b _ (A9e _ (A87 _ (Qh.2 ⟨x,d,rfl⟩)))
 ·exact A9b _ (A9b _ (A87 _ (Nj.2 ⟨x,d,f⟩)))
theorem AOk.below {w:World}{m:Dw}(h:AOk w base m)(c:Below w.heap.size w w'):AOk w' base m:=AOk.map m h (λ_ _ _ _ _ _ b=>ownsRow_below b c)
theorem AOk.kept {w:World}{m:Dw}(h:AOk w base m)(hg:w.grownBy w' x.ownBlock)(c:∀u∈m.vals,Aside u x):AOk w' base m:=AOk.map m h (λ_ _ _ _ _ b d=>d.kept hg (c _ b))
theorem AOk.le {w:World}{m:Dw}(h:AOk w base m)(hl:base'<=base):AOk w base' m:=AOk.map m h (λ_ _ _ _ _ _ b=>Joins.ownsRow_le b hl)
theorem AOk.lt {w:World}(m:Dw)(h:AOk w base m):∀x∈m.vals,∀k,x.ownBlock=some k->base<=k/\k<w.heap.size:=by
 revert h
 refine Aac (λm=>AOk w base m->∀x∈m.vals,∀k,x.ownBlock=some k->base<=k/\k<w.heap.size) ?_ m;intro n q s r kids i h x b j c;rw[Lj] at h;obtain⟨l,⟨f,p⟩,e,g⟩:=h;rw[Dw.vals_eq] at b;simp only[A9g,A9o] at b;rcases b with b | (rfl | b) | rfl | b
 ·exact l.lt _ x b j c
 ·exact f.lt j c
 ·obtain⟨y,d,rfl⟩:=Qh.1 b
  exact(p y d).lt j c
 ·exact e.lt j c
 ·obtain⟨y,d,b⟩:=Nj.1 b
  exact i y d (g y d) x b j c
def Qz (w:World)(base:Nat)(m:Dw):Prop:=AOk w base m/\m.vals.Pairwise Aside
theorem Qz.below {w:World}{m:Dw}(h:Qz w base m)(b:Below w.heap.size w w'):Qz w' base m:=⟨h.1.below b,h.2⟩
theorem Qz.le {w:World}{m:Dw}(h:Qz w base m)(hl:base'<=base):Qz w base' m:=⟨h.1.le hl,h.2⟩
def Ue (w:World)(base:Nat)(v:Value)(b:List Dw):Prop:=w.ownsRow base 38 6 v b.length (Jl b)/\(∀m∈b,AOk w base m)/\(v::Il b).Pairwise Aside
theorem Ue.nil (w:World)(base:Nat):Ue w base (.slice none 0 0) []:=⟨World.ownsRow_nil _ _ _ _,(λm b=>by cases b),Baw _ _⟩
theorem Ue.below {w:World}{c:List Dw}(h:Ue w base v c)(b:Below w.heap.size w w'):Ue w' base v c:=⟨ownsRow_below h.1 b,λm d=>(h.2.1 m d).below b,h.2.2⟩
theorem Ue.le {w:World}{b:List Dw}(h:Ue w base v b)(hl:base'<=base):Ue w base' v b:=⟨Joins.ownsRow_le h.1 hl,λm c=>(h.2.1 m c).le hl,h.2.2⟩
theorem Ue.lt {w:World}{d:List Dw}(h:Ue w base v d):∀x∈v::Il d,∀k,x.ownBlock=some k->base<=k/\k<w.heap.size:=by
 intro x b k c;rcases List.mem_cons.1 b with rfl | b
 ·exact h.1.lt k c
 ·obtain⟨m,e,b⟩:=Nj.1 b
  exact(h.2.1 m e).lt m x b k c
theorem Ue.add {w:World}{f d:List Dw}(h:Ue w base v f)(n:∀m∈d,AOk w base m)(g:(v::(Il f++Il d)).Pairwise Aside)
  (q:w'.ownsRow base 38 6 v' (f.length+d.length) (Jl f++Jl d)) (hg:w.grownBy w' v.ownBlock) (s:v'.ownBlock=v.ownBlock\/v'.ownBlock=some w.heap.size):Ue w' base v' (f++d):=by
 rw[A9p] at g;have r:∀x∈Il f++Il d,∀k,x.ownBlock=some k->k<w.heap.size:=by
  intro x c k i;rcases List.mem_append.1 c with c | c
  ·exact(h.lt x (A87 _ c) k i).2
  ·obtain⟨m,b,c⟩:=Nj.1 c
   exact((n m b).lt m x c k i).2
 refine⟨by rw[A83,Aj6];exact q,λm b=>?_,?_⟩
 ·rcases List.mem_append.1 b with b | b
  ·exact(h.2.1 m b).kept hg (λu hu=>(g.1 u (A9e _ (Nj.2 ⟨m,b,hu⟩))).symm)
  ·exact(n m b).kept hg (λu hu=>(g.1 u (A9b _ (Nj.2 ⟨m,b,hu⟩))).symm)
 ·rw[Am7,A9p]
  refine⟨λy l=>?_,g.2⟩;rcases s with e | e
  ·rcases g.1 y l with h0 | h0
   ·exact .inl yCb
   ·exact .inr yCb
  ·refine .inr (λj=>?_)
   rw[e] at j;have:=r y l _ j.symm
   omega
theorem Ue.apart {w w1:World}{i e:List Dw}{b1:Nat}(h:Ue w base v i)(q:∀m∈e,AOk w1 b1 m)(n:w.heap.size<=b1)(l:(Il e).Pairwise Aside):(v::(Il i++Il e)).Pairwise Aside:=by
 have g:=h.lt;have c:∀y∈Il e,∀k,y.ownBlock=some k->w.heap.size<=k:=by
  intro y c k d;obtain⟨m,r,c⟩:=Nj.1 c;exact A9f n ((q m r).lt m y c k d).1
 have f:=h.2.2;rw[A9p] at f ⊢;refine⟨λy b=>?_,List.pairwise_append.2 ⟨f.2,l,λx j y b=>Eg (λk d=>(g x (A87 _ j) k d).2) (c y b)⟩⟩;rcases List.mem_append.1 b with b | b
 ·exact f.1 y b
 ·exact Eg (λk d=>(g v spz k d).2) (c y b)
theorem Aty {w:World}{es:List Fg}(h1:w.ownsRow base 27 2 v es.length (Jh es))(e:∀m∈es,EOk w base m):Qs base w v (es.map Fg.elem):=by
 by_cases n:es.length=0
 ·obtain⟨a,cap,rfl⟩:=Ac h1
  exact⟨a,cap,spz,λi hi=>absurd hi yAb⟩
 ·obtain⟨g,cap,k,j,f,_,c⟩:=Cf h1 omz
  subst k;refine⟨_,cap,spz,λi hi=>⟨g,0,rfl,j,f,?_⟩⟩;have b:i<es.length:=by simpa using hi
  obtain⟨d,l⟩:=Abp es i b;rw[Bat,A9c];exact⟨c _ _ d,_,c _ _ l,I5.of_owns (e _ (A9a b))⟩
theorem AOk.from {w:World}(m:Dw)(h:AOk w base m):I5 base w m.net.av m.arm.net.one.args/\Vx base w m.net.kv m.arm.net.kids/\Qs base w m.cv m.arm.coils/\Aax base w m.kv m.arm.kids:=by
 revert h
 refine Aac (λm=>AOk w base m->I5 base w m.net.av m.arm.net.one.args/\Vx base w m.net.kv m.arm.net.kids/\Qs base w m.cv m.arm.coils/\Aax base w m.kv m.arm.kids) ?_ m;intro n M P O kids J h;rw[Lj] at h;rw[Dw.arm_eq];simp only at h ⊢;obtain⟨K,⟨B,L⟩,d,I⟩:=h;obtain⟨G,u⟩:=MOk.from n K;refine⟨G,u,Aty B L,?_⟩;by_cases N:kids.length=0
 ·obtain⟨a,cap,rfl⟩:=Ac d
  exact⟨a,cap,spz,λi hi=>absurd hi yAb⟩
 ·obtain⟨g,cap,H,C,q,_,b⟩:=Cf d omz
  subst H;refine⟨_,cap,spz,λi hi=>⟨g,0,rfl,C,q,?_⟩⟩;have c:i<kids.length:=by simpa using hi
  obtain⟨k,z,t,s,j,F⟩:=U0 kids i c;obtain⟨l,y,A,f⟩:=J _ (A9a c) (I _ (A9a c));rw[Bat,Ap6,Afp,A9c];have e:=Dw.arm_eq kids[i];have r:kids[i].arm.net.kind=kids[i].net.kind:=by rw[e];simp only;rw[Ah.net_eq]
  have D:kids[i].arm.net.one.op=kids[i].net.op:=by rw[e];simp only;rw[Ah.net_eq]
  rw[r,D];exact⟨⟨b _ _ k,b _ _ z,⟨_,b _ _ t,l⟩,⟨_,b _ _ s,y⟩⟩,⟨_,b _ _ j,A⟩,⟨_,b _ _ F,f⟩⟩
def Ar0 (w:World)(base:Nat)(a:Stil.Arm)(e:Ending):Prop:=∃(k op:Int) (b:List Stil.Dev) (j:Option Addr) (g:Nat) (ns:List Ah) (n:Option Addr) (m:Nat) (d:List Fg) (i:Option Addr) (l:Nat) (c:List Dw) (f:Option Addr) (h:Nat),e=.returned (.agg #[.int .i64 k, .int .i64 op, .slice j b.length g, .slice n ns.length m, .slice i d.length l, .slice f c.length h])/\Qz w base ⟨⟨k,op,b, .slice j b.length g, .slice n ns.length m,ns⟩, .slice i d.length l,d, .slice f c.length h,c⟩/\(Dw.mk ⟨k,op,b, .slice j b.length g, .slice n ns.length m,ns⟩ (.slice i d.length l) d (.slice f c.length h) c).arm=a
theorem Ae4 {w:World}{b:List Fg}(c:∀m∈b,EOk w base m):∀u∈Jh b,u.oneCell'=true:=by
 intro u hu;obtain⟨m,d,hu⟩:=List.mem_flatMap.1 hu;obtain⟨g,f,e⟩:=Ac (c m d);simp only[Fg.cells,A9o,Bch,Bax] at hu;rcases hu with rfl | rfl
 ·rfl
 ·rw[e];rfl
theorem Ap1 {w:World}{c:List Dw}(h:∀m∈c,AOk w base m):∀u∈Jl c,u.oneCell'=true:=by
 intro u hu;obtain⟨m,k,hu⟩:=List.mem_flatMap.1 hu;obtain⟨i,⟨f,_⟩,j,_⟩:=(Lj w base m).1 (h m k);have b:=(Ee w base m.net).1 i;obtain⟨n,q,d⟩:=Ac b.1;obtain⟨t,s,e⟩:=Ac b.2.1;obtain⟨r,z,l⟩:=Ac f;obtain⟨p,y,g⟩:=Ac j;simp only[Dw.cells,A9o,Bch,Bax] at hu;rcases hu with rfl | rfl | rfl | rfl | rfl | rfl
 ·rfl
 ·rfl
 ·rw[d];rfl
 ·rw[e];rfl
 ·rw[l];rfl
 ·rw[g];rfl
theorem ze0 {p:Prop}(h:p:=by
 rename_i t1
 have e:Sem.run prog (Builtin.append_ #[35,35] o.type #[.slice ra ms.length rc, .slice (some t1) 0 c]) w=.ok (.slice ra ms.length rc) w:=by cases ra<;>simp[Builtin.append_,go_sem,hcap]
 simp only[hop,resolve,invoke,builtin,Sem.run_bind,Sem.run_pure,Result.andThen_ok,Bad,A9l,A97,hs,hx,e];exact hk2):p:=h
theorem zh0 {p:Prop}(h:p:=by
 have e:Sem.run prog (Builtin.append_ #[35,35] o.type #[.slice ra ms.length rc, .slice none 0 c]) w=.ok (.slice ra ms.length rc) w:=by cases ra<;>simp[Builtin.append_,go_sem,hcap]
 simp only[hop,resolve,invoke,builtin,Sem.run_bind,Sem.run_pure,Result.andThen_ok,Bad,A9l,A97,hs,hx,e];exact hk2):p:=h
theorem Adu {w:World}{K:Act->World->Prop}{Q:Exit->Act->World->Prop}
  (hg:o.guard=none) (s x:Operand) (hop:o.op=.call {callee:=.builtin .append,args:=#[s,x],argTypes:=#[35,35]})
  (base lo:Nat) (ra:Option Addr) (rc:Nat) (ms b:List Fg) (ad:Option Addr) (c:Nat) (hs:a.eval s=.slice ra ms.length rc) (hx:a.eval x=.slice ad b.length c)
  (hrow:Yb w base (.slice ra ms.length rc) ms) (A:0<b.length->∃p,ad=some p/\∀j u,(Jh b)[j]?=some u->w.cell? (p.add j)=some u)
  (y:∀m∈b,EOk w base m) (J:(Value.slice ra ms.length rc::(Hq ms++Hq b)).Pairwise Aside) (hl:ms.length+b.length<=1000000) (M:base<=w.heap.size) (q:lo<=w.heap.size) (i:∀k,(Value.slice ra ms.length rc).ownBlock=some k->lo<=k)
  (t:∀n d w',Yb w' base (.slice n (ms.length+b.length) d) (ms++b)->Below lo w w'->(∀k,(Value.slice n (ms.length+b.length) d).ownBlock=some k->lo<=k)->K (a.put o.dst (.slice n (ms.length+b.length) d)) w'):
  if Region.wanted o (yielded ops a.tmps)=true then Oper.wp prog o a w K Q else E:=by
 obtain⟨G,hi,B,H,I⟩:=info_parts Alr;by_cases hd:b.length=0
 ·have P:=List.length_eq_zero_iff.1 hd
  subst P;have L:Region.wanted o (yielded ops a.tmps)=true:=by simp[Region.wanted,hg]
  rw[if_pos L];have hcap:ms.length<=rc:=by
   rcases hrow.1.2 with⟨l,f⟩ | ⟨g,d,cur,l,_,_,N,_⟩
   ·rw[f];exact Ban _
   ·simp only[Value.slice.injEq] at l
    rw[l.2.2];exact N
  have hk2:=t ra rc w yCf (Below.refl _ _) (by simpa using i);simp only[A85,Ba8] at hk2 hx;unfold Oper.wp execOp;cases ad
  ·exact zh0
  ·exact ze0
 ·obtain⟨p,rfl,D⟩:=A omz
  refine Eo hg s x _ hop base 27 G _ 2 32 underlying35 hi B H I rfl dcz _ _ (Jh ms) hs hrow.1 _ _ _ (Jh b) hx (Ahv b) D (Ae4 y) yAe omz M ?_;intro v' w' f r z;obtain⟨O,C,F⟩:=Ac f;subst F;refine t O C w' (hrow.add y J f r z) ((Below.refl _ _).grown r q i) (λk hk2=>?_);rcases z with e | e
  ·exact i k (by rw[<-e];exact hk2)
  ·rw[e] at hk2
   cases hk2;exact q
theorem Aa3 {w:World}{Q:Exit->Act->World->Prop}
  (hg:o.guard=none) (s x:Operand) (r:o.op=.call {callee:=.builtin .append,args:=#[s,x],argTypes:=#[35,35]})
  (base lo:Nat) (g:Option Addr) (f:Nat) (b d:List Fg) (ad:Option Addr) (c:Nat) (B:a.eval s=.slice g b.length f) (hx:a.eval x=.slice ad d.length c)
  (F:Yb w base (.slice g b.length f) b) (n:0<d.length->∃p,ad=some p/\∀j u,(Jh d)[j]?=some u->w.cell? (p.add j)=some u)
  (D:∀m∈d,EOk w base m) (t:(Value.slice g b.length f::(Hq b++Hq d)).Pairwise Aside) (hl:b.length+d.length<=1000000) (A:base<=w.heap.size) (q:lo<=w.heap.size) (l:∀k,(Value.slice g b.length f).ownBlock=some k->lo<=k)
  (h:∀i e w',Yb w' base (.slice i (b.length+d.length) e) (b++d)->Below lo w w'->(∀k,(Value.slice i (b.length+d.length) e).ownBlock=some k->lo<=k)->wpList prog ops Q rest (a.put o.dst (.slice i (b.length+d.length) e)) w'):
  wpList prog ops Q (o::rest) a w:=by
 refine wpList_plain hg λK C=>?_
 have y:Region.wanted o (yielded #[] a.tmps)=true:=by simp[Region.wanted,hg]
 have:=Adu (ops:=#[]) (K:=K) (Q:=Q) (E:=True) hg s x r base lo g f b d ad c B hx F n D t hl A q l (λi e w' G z H=>C _ _ (h i e w' G z H))
 rwa [if_pos y] at this
theorem Af1 {w:World}{K:Act->World->Prop}{Q:Exit->Act->World->Prop}
  (hg:o.guard=none) (s x:Operand) (y:o.op=.call {callee:=.builtin .append,args:=#[s,x],argTypes:=#[36,36]})
  (base lo:Nat) (f:Option Addr) (i:Nat) (b d:List Dw) (ad:Option Addr) (c:Nat) (z:a.eval s=.slice f b.length i) (hx:a.eval x=.slice ad d.length c)
  (hrow:Ue w base (.slice f b.length i) b) (I:0<d.length->∃p,ad=some p/\∀j u,(Jl d)[j]?=some u->w.cell? (p.add j)=some u)
  (G:∀m∈d,AOk w base m) (S:(Value.slice f b.length i::(Il b++Il d)).Pairwise Aside) (hl:b.length+d.length<=1000000) (U:base<=w.heap.size) (C:lo<=w.heap.size) (r:∀k,(Value.slice f b.length i).ownBlock=some k->lo<=k)
  (F:∀A n w',Ue w' base (.slice A (b.length+d.length) n) (b++d)->Below lo w w'->(∀k,(Value.slice A (b.length+d.length) n).ownBlock=some k->lo<=k)->K (a.put o.dst (.slice A (b.length+d.length) n)) w'):
  if Region.wanted o (yielded ops a.tmps)=true then Oper.wp prog o a w K Q else E:=by
 obtain⟨O,hi,J,P,R⟩:=info_parts A2w;by_cases hd:d.length=0
 ·have Y:=List.length_eq_zero_iff.1 hd
  subst Y;have T:Region.wanted o (yielded ops a.tmps)=true:=by simp[Region.wanted,hg]
  rw[if_pos T];have B:b.length<=i:=by
   rcases hrow.1.2 with⟨t,q⟩ | ⟨g,n,cur,t,_,_,V,_⟩
   ·rw[q];exact Ban _
   ·simp only[Value.slice.injEq] at t
    rw[t.2.2];exact V
  have l:=F f i w yCf (Below.refl _ _) (by simpa using r);simp only[A85,Ba8] at l hx;unfold Oper.wp execOp;cases ad
  ·have e:Sem.run prog (Builtin.append_ #[36,36] o.type #[.slice f b.length i, .slice none 0 c]) w=.ok (.slice f b.length i) w:=by cases f<;>simp[Builtin.append_,go_sem,B]
   simp only[y,resolve,invoke,builtin,Sem.run_bind,Sem.run_pure,Result.andThen_ok,Bad,A9l,A97,z,hx,e];exact l
  ·rename_i Z
   have e:Sem.run prog (Builtin.append_ #[36,36] o.type #[.slice f b.length i, .slice (some Z) 0 c]) w=.ok (.slice f b.length i) w:=by cases f<;>simp[Builtin.append_,go_sem,B]
   simp only[y,resolve,invoke,builtin,Sem.run_bind,Sem.run_pure,Result.andThen_ok,Bad,A9l,A97,z,hx,e];exact l
 ·obtain⟨p,rfl,M⟩:=I omz
  refine Eo hg s x _ y base 38 O _ 6 112 underlying36 hi J P R rfl dcz _ _ (Jl b) z hrow.1 _ _ _ (Jl d) hx (Au8 d) M (Ap1 G) yAe omz U ?_;intro v' w' q D H;obtain⟨X,L,N⟩:=Ac q;subst N;refine F X L w' (hrow.add G S q D H) ((Below.refl _ _).grown D C r) (λk l=>?_);rcases H with e | e
  ·exact r k (by rw[<-e];exact l)
  ·rw[e] at l
   cases l;exact C
theorem Acr {w:World}{Q:Exit->Act->World->Prop}
  (hg:o.guard=none) (s x:Operand) (r:o.op=.call {callee:=.builtin .append,args:=#[s,x],argTypes:=#[36,36]})
  (base lo:Nat) (g:Option Addr) (f:Nat) (b d:List Dw) (ad:Option Addr) (c:Nat) (B:a.eval s=.slice g b.length f) (hx:a.eval x=.slice ad d.length c)
  (F:Ue w base (.slice g b.length f) b) (n:0<d.length->∃p,ad=some p/\∀j u,(Jl d)[j]?=some u->w.cell? (p.add j)=some u)
  (D:∀m∈d,AOk w base m) (t:(Value.slice g b.length f::(Il b++Il d)).Pairwise Aside) (hl:b.length+d.length<=1000000) (A:base<=w.heap.size) (q:lo<=w.heap.size) (l:∀k,(Value.slice g b.length f).ownBlock=some k->lo<=k)
  (h:∀i e w',Ue w' base (.slice i (b.length+d.length) e) (b++d)->Below lo w w'->(∀k,(Value.slice i (b.length+d.length) e).ownBlock=some k->lo<=k)->wpList prog ops Q rest (a.put o.dst (.slice i (b.length+d.length) e)) w'):
  wpList prog ops Q (o::rest) a w:=by
 refine wpList_plain hg λK C=>?_
 have y:Region.wanted o (yielded #[] a.tmps)=true:=by simp[Region.wanted,hg]
 have:=Af1 (ops:=#[]) (K:=K) (Q:=Q) (E:=True) hg s x r base lo g f b d ad c B hx F n D t hl A q l (λi e w' G z H=>C _ _ (h i e w' G z H))
 rwa [if_pos y] at this
end Go.Proofs.YtobbpffcggchmaaGreatDoor
