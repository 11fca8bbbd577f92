import Derived.Test.YtobbpffcggchmaaGreatDoorGT
import Derived.Maps.AppendAt
import Derived.Test.YtobbpffcggchmaaGreatDoorFRe
import Derived.Test.YtobbpffcggchmaaGreatDoorKe
import Derived.Deep.RegionLaw
import Derived.Great.Walk
namespace Go.Proofs.YtobbpffcggchmaaGreatDoor
open Tryz
open Stil
open Go.RowKit Go.Sort Go.BigFrame
variable {B base o s:Nat}{cs xs ys:List Value}{v v':Value}{w':World}{α:Type}
def Bf (P:Nat->Prop)(w w':World):Prop:=w.heap.size<=w'.heap.size/\∀b o,P b->b<w.heap.size->w'.cell? ⟨b,o,none⟩=w.cell? ⟨b,o,none⟩
theorem Bf.refl (P:Nat->Prop)(w:World):Bf P w w:=⟨A88 _,λ_ _ _ _=>rfl⟩
theorem Bf.trans {P:Nat->Prop}{a b c:World}(h1:Bf P a b)(e:Bf P b c):Bf P a c:=
 ⟨A9f h1.1 e.1,λx o d f=>(e.2 x o d (A82 f h1.1)).trans (h1.2 x o d f)⟩
theorem Bf.of_below {P:Nat->Prop}{w:World}(h:Below w.heap.size w w'):Bf P w w':=⟨h.size,λb o _ c=>h.cell (p:=⟨b,o,none⟩) c⟩
theorem Bf.of_grown {P:Nat->Prop}{w:World}{r:Option Nat}(h:w.grownBy w' r)(hr:∀b,P b->r≠some b):Bf P w w':=⟨h.size,λb o c d=>by
 unfold World.cell?
 rw[h.block b d (λe=>hr b c e.symm)]⟩
theorem Bf.set {P:Nat->Prop}{w:World}{b:Nat}(c:¬P b)(v:Value):Bf P w (w.setCell ⟨b,o,none⟩ v):=⟨((Below.refl 0 w).setCell (Ban _) v).size,λx p d _=>by
 have g:¬x=b:=λe=>c (e ▸ d)
 have f:¬b=x:=λe=>c (e ▸ d)
 simp[go_sem]⟩
def Ac6 (a:Option Addr)(n cap:Nat):Prop:=n<=cap/\(a=none->cap=0)
def Ej (P:Nat->Prop)(w:World)(v:Value)(c:List Stil.Dev):Prop:=∃a cap,v=.slice a c.length cap/\Ac6 a c.length cap/\∀i (h:i<c.length),∃b o,a=some ⟨b,o,none⟩/\P b/\b<w.heap.size/\Io w b (o+i*3) c[i]
theorem Io.keepIn {P:Nat->Prop}{w:World}{b:Nat}{d:Stil.Dev}(h:Io w b o d)(e:Bf P w w')(hl:P b)(c:b<w.heap.size):Io w' b o d:=by
 obtain⟨f,i,g⟩:=h;exact⟨by rw[e.2 _ _ hl c];exact f,by rw[e.2 _ _ hl c];exact i,by rw[e.2 _ _ hl c];exact g⟩
theorem Ej.keep {P:Nat->Prop}{w:World}{c:List Stil.Dev}(h:Ej P w v c)(f:Bf P w w'):Ej P w' v c:=by
 obtain⟨a,cap,j,k,l⟩:=h;refine⟨a,cap,j,k,λi hi=>?_⟩;obtain⟨b,o,g,e,d,hd⟩:=l i hi;exact⟨b,o,g,e,A82 d f.1,hd.keepIn f e d⟩
theorem Ej.mono {P Q:Nat->Prop}{w:World}{c:List Stil.Dev}(h:Ej Q w v c)(hl:∀b,b<w.heap.size->Q b->P b):Ej P w v c:=by
 obtain⟨a,cap,j,k,g⟩:=h;refine⟨a,cap,j,k,λi hi=>?_⟩;obtain⟨b,o,e,f,d,hd⟩:=g i hi;exact⟨b,o,e,hl _ d f,d,hd⟩
theorem Ej.at {P:Nat->Prop}{w:World}{c:List Stil.Dev}(h:Ej P w v c):A7 w v c:=by
 obtain⟨a,cap,e,k,g⟩:=h;refine⟨a,cap,e,λi hi=>?_⟩;obtain⟨b,o,d,j,f,hd⟩:=g i hi;exact⟨b,o,d,f,hd⟩
def Wj (P:Nat->Prop)(w:World):Nat->Nat->Stil.Net->Prop
 | b,o,⟨k,e,kids⟩=>w.cell? ⟨b,o,none⟩=some (.int .i64 k)/\w.cell? ⟨b,o+1,none⟩=some (.int .i64 e.op)/\
   (∃d,w.cell? ⟨b,o+2,none⟩=some d/\Ej P w d e.args)/\
   ∃a cap,w.cell? ⟨b,o+3,none⟩=some (.slice a kids.length cap)/\Ac6 a kids.length cap/\∀i (h:i<kids.length),∃c f,a=some ⟨c,f,none⟩/\P c/\c<w.heap.size/\
    (have:=Bbi (A9a h);Wj P w c (f+i*4) kids[i])
theorem Adj (P:Nat->Prop)(w:World)(b o:Nat)(k:Int)(e:Stil.Elem)(kids:List Stil.Net):Wj P w b o ⟨k,e,kids⟩=(w.cell? ⟨b,o,none⟩=some (.int .i64 k)/\w.cell? ⟨b,o+1,none⟩=some (.int .i64 e.op)/\
   (∃d,w.cell? ⟨b,o+2,none⟩=some d/\Ej P w d e.args)/\
   ∃a cap,w.cell? ⟨b,o+3,none⟩=some (.slice a kids.length cap)/\Ac6 a kids.length cap/\∀i (h:i<kids.length),∃c f,a=some ⟨c,f,none⟩/\P c/\c<w.heap.size/\Wj P w c (f+i*4) kids[i]):=by rw[Wj]
def Mc (P:Nat->Prop)(w:World)(v:Value)(ns:List Stil.Net):Prop:=∃a cap,v=.slice a ns.length cap/\Ac6 a ns.length cap/\∀i (h:i<ns.length),∃b o,a=some ⟨b,o,none⟩/\P b/\b<w.heap.size/\Wj P w b (o+i*4) ns[i]
theorem Afo (P:Nat->Prop)(w:World)(b o:Nat)(n:Stil.Net):Wj P w b o n↔(w.cell? ⟨b,o,none⟩=some (.int .i64 n.kind)/\w.cell? ⟨b,o+1,none⟩=some (.int .i64 n.one.op)/\
   (∃j,w.cell? ⟨b,o+2,none⟩=some j/\Ej P w j n.one.args)/\∃l,w.cell? ⟨b,o+3,none⟩=some l/\Mc P w l n.kids):=by
 obtain⟨k,e,kids⟩:=n;rw[Adj];constructor
 ·rintro⟨g,c,h,a,cap,d,i,f⟩;exact⟨g,c,h,_,d,a,cap,rfl,i,f⟩
 ·rintro⟨g,c,h,_,d,a,cap,rfl,i,f⟩;exact⟨g,c,h,a,cap,d,i,f⟩
theorem Wj.keep {P:Nat->Prop}{w:World}(c:Bf P w w'):∀(n:Stil.Net) (b o:Nat),Wj P w b o n->P b->b<w.heap.size->Wj P w' b o n:=by
 intro n;induction n using Et with
 | h k e kids y=>
  intro b o h f d;rw[Adj] at h ⊢;obtain⟨z,u,⟨m,A,r⟩,a,cap,x,D,t⟩:=h;refine⟨?_,?_,⟨m,?_,r.keep c⟩,a,cap,?_,D,λi hi=>?_⟩
  ·rw[c.2 _ _ f d];exact z
  ·rw[c.2 _ _ f d];exact u
  ·rw[c.2 _ _ f d];exact A
  ·rw[c.2 _ _ f d];exact x
  ·obtain⟨g,q,p,j,l,C⟩:=t i hi
   exact⟨g,q,p,j,A82 l c.1,y _ (A9a hi) g _ C j l⟩
theorem Mc.keep {P:Nat->Prop}{w:World}{ns:List Stil.Net}(h:Mc P w v ns)(e:Bf P w w'):Mc P w' v ns:=by
 obtain⟨a,cap,g,j,k⟩:=h;refine⟨a,cap,g,j,λi hi=>?_⟩;obtain⟨b,o,f,d,c,hd⟩:=k i hi;exact⟨b,o,f,d,A82 c e.1,Wj.keep e _ _ _ hd d c⟩
theorem Wj.mono {P Q:Nat->Prop}{w:World}(hl:∀b,b<w.heap.size->Q b->P b):∀(n:Stil.Net) (b o:Nat),Wj Q w b o n->Wj P w b o n:=by
 intro n;induction n using Et with
 | h k e kids t=>
  intro b o h;rw[Adj] at h ⊢;obtain⟨u,q,⟨f,x,l⟩,a,cap,r,z,m⟩:=h;refine⟨u,q,⟨f,x,l.mono hl⟩,a,cap,r,z,λi hi=>?_⟩;obtain⟨c,j,g,p,d,y⟩:=m i hi;exact⟨c,j,g,hl _ d p,d,t _ (A9a hi) c _ y⟩
theorem Mc.mono {P Q:Nat->Prop}{w:World}{ns:List Stil.Net}(h:Mc Q w v ns)(hl:∀b,b<w.heap.size->Q b->P b):Mc P w v ns:=by
 obtain⟨a,cap,g,j,f⟩:=h;refine⟨a,cap,g,j,λi hi=>?_⟩;obtain⟨b,o,d,e,c,hd⟩:=f i hi;exact⟨b,o,d,hl _ c e,c,Wj.mono hl _ _ _ hd⟩
theorem Wj.at {P:Nat->Prop}{w:World}:∀(n:Stil.Net) (b o:Nat),Wj P w b o n->Oz w b o n:=by
 intro n;induction n using Et with
 | h k e kids r=>
  intro b o h;rw[Adj] at h;rw[Adk];obtain⟨t,p,⟨d,u,j⟩,a,cap,q,z,l⟩:=h;refine⟨t,p,⟨d,u,j.at⟩,a,cap,q,λi hi=>?_⟩;obtain⟨c,g,f,y,m,x⟩:=l i hi;exact⟨c,g,f,m,r _ (A9a hi) c _ x⟩
theorem Mc.at {P:Nat->Prop}{w:World}{ns:List Stil.Net}(h:Mc P w v ns):D8 w v ns:=by
 obtain⟨a,cap,d,j,f⟩:=h;refine⟨a,cap,d,λi hi=>?_⟩;obtain⟨b,o,c,g,e,hd⟩:=f i hi;exact⟨b,o,c,e,Wj.at _ _ _ hd⟩
def RowOf {α:Type}(s:Nat)(R:List Value->α->Prop)(xs:List Value)(b:List α):Prop:=xs.length=b.length*s/\∀i (h:i<b.length),R ((xs.drop (i*s)).take s) b[i]
theorem RowOf.nil (s:Nat)(R:List Value->α->Prop):RowOf s R [] []:=⟨spz,λi h=>by simp at h⟩
theorem RowOf.imp {R Q:List Value->α->Prop}{b:List α}(h:RowOf s R xs b)(c:∀cs a,a∈b->R cs a->Q cs a):RowOf s Q xs b:=
 ⟨h.1,λi hi=>c _ _ (A9a hi) (h.2 i hi)⟩
theorem RowOf.append {R:List Value->α->Prop}{b d:List α}(h:RowOf s R xs b)(k:RowOf s R ys d):RowOf s R (xs++ys) (b++d):=by
 have f:=h.1;have g:=k.1;refine⟨by simp[f,g,Nat.add_mul],λi hi=>?_⟩;by_cases c:i<b.length
 ·have l:i*s+s<=b.length*s:=by rw[<-Bbn];exact Bak s c
  rw[Bcg c,List.drop_append_of_le_length omz,List.take_append_of_le_length yAb];exact h.2 i c
 ·have j:i - b.length<d.length:=by simp at hi;omega
  have e:i*s=xs.length+(i - b.length)*s:=by rw[f,<-Nat.add_mul];congr 1;omega
  rw[List.getElem_append_right omz,e,List.drop_append];simp only[Nat.le_add_right,Bb3,A9u,Nat.add_sub_cancel_left];exact k.2 _ j
theorem RowOf.one {R:List Value->α->Prop}{a:α}(hl:cs.length=s)(h:R cs a):RowOf s R cs [a]:=
 ⟨by simp[hl],λi hi=>by
  have:i=0:=by simp at hi;omega
  subst this
  simpa[<-hl] using h⟩
theorem RowOf.set {R:List Value->α->Prop}{b:List α}{k:Nat}{a:α}(h:RowOf s R xs b)(n:k<b.length)(hl:ys.length=xs.length)(f:R ((ys.drop (k*s)).take s) a)
  (g:∀j,j<k*s\/k*s+s<=j->ys[j]?=xs[j]?):RowOf s R ys (b.set k a):=by
 refine⟨by simp[hl,h.1],λi hi=>?_⟩;by_cases e:i=k
 ·subst e
  rw[List.getElem_set_self];exact f
 ·rw[List.getElem_set_ne (λx=>e x.symm)]
  have m:i<b.length:=by simpa using hi
  have l:=h.2 i m;have:(ys.drop (i*s)).take s=(xs.drop (i*s)).take s:=by
   apply Bbw;intro j;simp only[Ba4,Ba5];by_cases c:j<s
   ·rw[if_pos c,if_pos c]
    apply g;rcases Nat.lt_or_gt_of_ne e with d | d
    ·left
     have:i*s+s<=k*s:=by rw[<-Bbn];exact Bak s d
     omega
    ·right
     have:k*s+s<=i*s:=by rw[<-Bbn];exact Bak s d
     omega
   ·rw[if_neg c,if_neg c]
  rw[this];exact l
def Am9 (P:Nat->Prop)(w:World)(cs:List Value)(n:Stil.Net):Prop:=∃b c,cs=[.int .i64 n.kind, .int .i64 n.one.op,b,c]/\Ej P w b n.one.args/\Mc P w c n.kids
theorem Am9.keep {P:Nat->Prop}{w:World}{n:Stil.Net}(h:Am9 P w cs n)(b:Bf P w w'):Am9 P w' cs n:=by
 obtain⟨c,d,e,g,f⟩:=h;exact⟨c,d,e,g.keep b,f.keep b⟩
theorem Am9.mono {P Q:Nat->Prop}{w:World}{n:Stil.Net}(h:Am9 Q w cs n)(hl:∀b,b<w.heap.size->Q b->P b):Am9 P w cs n:=by
 obtain⟨c,d,e,g,f⟩:=h;exact⟨c,d,e,g.mono hl,f.mono hl⟩
theorem Iy {w:World}{n:Nat}{e:TypeId}(h:w.ownsRow base e s v n xs):∃a cap,v=.slice a n cap/\Ac6 a n cap/\(∀b o sp,a=some ⟨b,o,sp⟩->o=0/\sp=none/\v.ownBlock=some b/\base<=b/\b<w.heap.size/\∀j u,xs[j]?=some u->w.cell? ⟨b,j,none⟩=some u)/\(0<n->a≠none):=by
 rcases h.2 with⟨l,r⟩ | ⟨g,cap,cur,d,m,y,k,x⟩
 ·have t:=r
  subst t;exact⟨none,0,l,⟨A88 _,λ_=>rfl⟩,λb o sp c=>(by cases c),λq=>absurd q omz⟩
 ·refine⟨_,cap,d,⟨k,λc=>(by cases c)⟩,λb o sp c=>?_,λ_ c=>(by cases c)⟩
  simp only[A96,Addr.mk.injEq] at c;obtain⟨rfl,rfl,rfl⟩:=c;have f:v.ownBlock=some g:=by rw[d];rfl
  refine⟨rfl,rfl,f,m,(h.lt g f).2,λj u i=>?_⟩;have z:=(List.getElem?_eq_some_iff.1 i).1;subst d;have:=h.cellAt j (by have:=h.1;omega)
  rw[this];exact i
theorem Ag6 {R:List Value->α->Prop}{c:List α}(_h:RowOf s R xs c){i:Nat}(_hi:i<c.length)(d:(xs.drop (i*s)).take s=cs):∀j u,cs[j]?=some u->xs[i*s+j]?=some u:=by
 intro j u b;rw[<-d] at b;simp only[Ba4,Ba5] at b;split at b
 ·exact b
 ·cases b
theorem Z9 {P:Nat->Prop}{w:World}{ns:List Stil.Net}(h:w.ownsRow base 30 4 v ns.length xs)(hr:RowOf 4 (Am9 P w) xs ns)(l:∀b,v.ownBlock=some b->P b):Mc P w v ns:=by
 obtain⟨a,cap,r,x,g,u⟩:=Iy h;refine⟨a,cap,r,x,λi hi=>?_⟩;obtain⟨⟨b,o,sp⟩,e⟩:∃ad,a=some ad:=by
  cases a with
  | none=>exact absurd rfl (u omz)
  | some ad=>exact⟨ad,rfl⟩
 obtain⟨rfl,rfl,j,y,m,d⟩:=g b o sp e;obtain⟨f,q,k,n,t⟩:=hr.2 i hi;have c:=Ag6 hr hi k;refine⟨b,0,e,l b j,m,(Afo _ _ _ _ _).2 ⟨?_,?_,⟨f,?_,n⟩,q,?_,t⟩⟩
 ·rw[A9c];exact d _ _ (c 0 _ rfl)
 ·rw[A9c];exact d _ _ (c 1 _ rfl)
 ·rw[A9c];exact d _ _ (c 2 _ rfl)
 ·rw[A9c];exact d _ _ (c 3 _ rfl)
theorem Aw5 {R:List Value->α->Prop}{b:List α}(f:Nat->Value)(h:∀i (hi:i<b.length),R ((List.range s).map λj=>f (i*s+j)) b[i]):RowOf s R ((List.range (b.length*s)).map f) b:=by
 refine⟨spz,λi hi=>?_⟩;have e:(((List.range (b.length*s)).map f).drop (i*s)).take s=(List.range s).map λj=>f (i*s+j):=by
  have d:i*s+s<=b.length*s:=by rw[<-Bbn];exact Bak s hi
  apply Bbw;intro j;simp only[Ba4,Ba5,Bbm];by_cases c:j<s
  ·rw[if_pos c,Bb8 omz,Bb8 c];rfl
  ·rw[if_neg c,Bbc yAb];rfl
 rw[e];exact h i hi
def A7v {α:Type}(s:Nat)(R:List Value->α->Prop)(w:World)(v:Value)(b:List α):Prop:=∃a cap,v=.slice a b.length cap/\Ac6 a b.length cap/\∃xs,RowOf s R xs b/\∀ad,a=some ad->∀j u,xs[j]?=some u->w.cell? (ad.add j)=some u
theorem A1n {R:List Value->α->Prop}{w:World}{a:Option Addr}{cap:Nat}{d:List α}(t:0<s)(y:Ac6 a d.length cap)(h:∀i (hi:i<d.length),∃b o,a=some ⟨b,o,none⟩/\∃cs:List Value,cs.length=s/\R cs d[i]/\∀j u,cs[j]?=some u->w.cell? ⟨b,o+i*s+j,none⟩=some u):A7v s R w (.slice a d.length cap) d:=by
 refine⟨a,cap,rfl,y,?_⟩;by_cases n:d=[]
 ·subst n
  exact⟨[],RowOf.nil _ _,λad _ j u c=>by simp at c⟩
 ·obtain⟨b,o,rfl,_⟩:=h 0 (by cases d with | nil=>exact absurd rfl n | cons _ _=>simp)
  have g:∀i (hi:i<d.length),∃cs:List Value,cs.length=s/\R cs d[i]/\∀j u,cs[j]?=some u->w.cell? ⟨b,o+i*s+j,none⟩=some u:=by
   intro i hi;obtain⟨C,z,e,q⟩:=h i hi;simp only[A96,Addr.mk.injEq,Bbx] at e;obtain⟨rfl,rfl⟩:=e;exact q
  refine⟨_,Aw5 (λj=>(w.cell? ⟨b,o+j,none⟩).getD (.int .i64 0)) (λi hi=>?_),λad r j u c=>?_⟩
  ·obtain⟨cs,m,l,f⟩:=g i hi
   have e:((List.range s).map λj=>(w.cell? ⟨b,o+(i*s+j),none⟩).getD (.int .i64 0))=cs:=by
    apply Bbw;intro j;by_cases c:j<s
    ·rw[Bbm,Bb8 c,A9k omz]
     simp only[Bbt,A96];rw[<-Nat.add_assoc,f j cs[j] (A9k omz)];rfl
    ·rw[Bbc yAb,Bbc omz]
   rw[e];exact l
  ·cases r
   rw[Bbm] at c;have k:j<d.length*s:=by
    apply Classical.byContradiction;intro A;rw[Bbc yAb] at c;cases c
   rw[Bb8 k] at c;simp only[Bbt,A96] at c;have hi:=Nat.div_lt_of_lt_mul (by rw[Nat.mul_comm];exact k);obtain⟨cs,m,l,f⟩:=g (j / s) hi;have x:j % s<cs.length:=by rw[m];exact Nat.mod_lt _ t
   have:=f (j % s) cs[j % s] (A9k x)
   have e:o+j / s*s+j % s=o+j:=by have:=Nat.div_add_mod j s;rw[Nat.mul_comm] at this;omega
   rw[e] at this;rw[this] at c;rw[Addr.add_lit,this,<-c];rfl
def Off (B:Nat)(v:Value)(b:Nat):Prop:=B<b/\v.ownBlock≠some b
theorem kpA {P:Nat->Prop}{w W:World}(h:Bf P w W:=by(repeat (first | with_reducible exact Bf.refl _ _ | with_reducible assumption | with_reducible refine Bf.trans ?_ (Bf.set (by first | omega | (intro h;exact absurd rfl h.2) | (intro h;exact absurd h.1 (Bae _)) | (simp[Off];done) | (simp[Off];omega)) _) | with_reducible refine Bf.trans ?_ (Bf.of_below (Aa _ _))))):Bf P w W:=h
theorem Td {w:World}(h:w.grownBy w' v.ownBlock):Bf (Off B v) w w':=Bf.of_grown h λ_ b=>b.2
theorem Ot {w:World}(h:v'.ownBlock=v.ownBlock\/v'.ownBlock=some w.heap.size):∀b,b<w.heap.size->Off B v b->Off B v' b:=by
 intro b d c;refine⟨c.1,?_⟩;rcases h with h | h
 ·rw[h];exact c.2
 ·rw[h]
  intro e;simp only[A96] at e;omega
theorem Qi {P Q:Nat->Prop}{w:World}(h:Bf Q w w')(hl:∀b,b<w.heap.size->P b->Q b):Bf P w w':=⟨h.1,λb o d c=>h.2 b o (hl b c d) c⟩
theorem Aog {w:World}{ns:List Stil.Net}{n:Stil.Net}(h:RowOf 4 (Am9 (Off B v) w) xs ns)(j:Am9 (Off B v) w cs n)(hl:cs.length=4)(hg:w.grownBy w' v.ownBlock)(f:v'.ownBlock=v.ownBlock\/v'.ownBlock=some w.heap.size):RowOf 4 (Am9 (Off B v') w') (xs++cs) (ns++[n]):=by
 have d:∀cs e,Am9 (Off B v) w cs e->Am9 (Off B v') w' cs e:=λcs e h=>by
  have i:Am9 (λb=>Off B v b/\Off B v' b) w cs e:=h.mono λb g c=>⟨c,Ot f b g c⟩
  exact(i.keep (Qi (Td (B:=B) hg) λb _ c=>c.1)).mono λb _ c=>c.2
 exact(h.imp λcs e _=>d cs e).append (RowOf.one hl (d _ _ j))
theorem Pg {w:World}{g:Nat}{c:List Stil.Dev}(h:Gw w g v c):Ej (λb=>g<b) w v c:=h
theorem Ajh (P:Nat->Prop)(w:World):Ej P w (.slice none 0 0) []:=⟨none,0,rfl,⟨A88 _,λ_=>rfl⟩,λi hi=>by simp at hi⟩
theorem Aq0 (P:Nat->Prop)(w:World):Mc P w (.slice none 0 0) []:=⟨none,0,rfl,⟨A88 _,λ_=>rfl⟩,λi hi=>by simp at hi⟩
def Au9 (e:Stil.Elem):Prop:=(-1000000<=e.op/\e.op<=1000000)/\(∀d∈e.args,Small d)/\e.args.length<=100000
def Ac5:Stil.Net->Prop
 | ⟨k,e,kids⟩=>(-1000000<=k/\k<=1000000)/\Au9 e/\∀p∈kids.map Ac5,p
theorem Aau (k:Int)(e:Stil.Elem)(kids:List Stil.Net):Ac5 ⟨k,e,kids⟩↔(-1000000<=k/\k<=1000000)/\Au9 e/\∀x∈kids,Ac5 x:=by rw[Ac5,Stil.all_map]
theorem Au9.wf {e:Stil.Elem}(h:Au9 e):e.wf:=⟨⟨by have:=h.1.1;omega,by have:=h.1.2;omega⟩,by have:=h.2.2;omega,λd hd=>(h.2.1 d hd).fits⟩
theorem Ac5.wf (n:Stil.Net):Ac5 n->Xb n<=1000000->Asy n:=by
 induction n using Et with
 | h k e kids d=>
  intro h c;obtain⟨i,g,f⟩:=(Aau _ _ _).1 h;rw[Vf] at c;refine(Aq1 _ _ _).2 ⟨⟨omz,omz⟩,g.wf,omz,λx b=>d x b (f x b) ?_⟩;have:=Hr Xb kids x b
  omega
end Go.Proofs.YtobbpffcggchmaaGreatDoor
set_option maxHeartbeats 4000000
set_option maxRecDepth 100000
namespace Go.Proofs.YtobbpffcggchmaaGreatDoor
open Tryz
open Go.RowKit Go.Sort Go.BigFrame
variable {a:Act}{cs:List Value}{o:Oper}{ops:Array Oper}{v:Value}{w':World}
theorem Ov:(prog.info? 48).map (λi=>(i.zero,i.size,i.bytes))=some (some (.agg #[.int .i64 0, .int .i64 0, .slice none 0 0]),3,40):=krz
def Anb (P:Nat->Prop)(w:World)(b o:Nat)(e:Stil.F7):Prop:=w.cell? ⟨b,o,none⟩=some (.int .i64 e.code)/\w.cell? ⟨b,o+1,none⟩=some (.int .i64 e.one.op)/\∃c,w.cell? ⟨b,o+2,none⟩=some c/\Ej P w c e.one.args
def J8 (P:Nat->Prop)(w:World)(v:Value)(es:List Stil.F7):Prop:=∃a cap,v=.slice a es.length cap/\Ac6 a es.length cap/\∀i (h:i<es.length),∃b o,a=some ⟨b,o,none⟩/\P b/\b<w.heap.size/\Anb P w b (o+i*3) es[i]
theorem Anb.keep {P:Nat->Prop}{w:World}{b o:Nat}{e:Stil.F7}(h:Anb P w b o e)(c:Bf P w w')(hl:P b)(d:b<w.heap.size):Anb P w' b o e:=by
 obtain⟨k,g,f,j,i⟩:=h;exact⟨by rw[c.2 _ _ hl d];exact k,by rw[c.2 _ _ hl d];exact g,f,by rw[c.2 _ _ hl d];exact j,i.keep c⟩
theorem J8.keep {P:Nat->Prop}{w:World}{es:List Stil.F7}(h:J8 P w v es)(e:Bf P w w'):J8 P w' v es:=by
 obtain⟨a,cap,g,j,k⟩:=h;refine⟨a,cap,g,j,λi hi=>?_⟩;obtain⟨b,o,f,d,c,hd⟩:=k i hi;exact⟨b,o,f,d,A82 c e.1,hd.keep e d c⟩
theorem J8.mono {P Q:Nat->Prop}{w:World}{es:List Stil.F7}(h:J8 Q w v es)(hl:∀b,b<w.heap.size->Q b->P b):J8 P w v es:=by
 obtain⟨a,cap,l,p,j⟩:=h;refine⟨a,cap,l,p,λi hi=>?_⟩;obtain⟨b,o,e,f,c,k,m,d,g,n⟩:=j i hi;exact⟨b,o,e,hl _ c f,c,k,m,d,g,n.mono hl⟩
theorem J8.at {P:Nat->Prop}{w:World}{es:List Stil.F7}(h:J8 P w v es):Ja w v es:=by
 obtain⟨a,cap,j,p,f⟩:=h;refine⟨a,cap,j,λi hi=>?_⟩;obtain⟨b,o,d,n,k,g,l,c,e,m⟩:=f i hi;exact⟨b,o,d,k,g,l,c,e,m.at⟩
def Nq (P:Nat->Prop)(w:World)(cs:List Value)(e:Stil.F7):Prop:=∃b,cs=[.int .i64 e.code, .int .i64 e.one.op,b]/\Ej P w b e.one.args
theorem Nq.keep {P:Nat->Prop}{w:World}{e:Stil.F7}(h:Nq P w cs e)(c:Bf P w w'):Nq P w' cs e:=by
 obtain⟨b,d,f⟩:=h;exact⟨b,d,f.keep c⟩
theorem Nq.mono {P Q:Nat->Prop}{w:World}{e:Stil.F7}(h:Nq Q w cs e)(hl:∀b,b<w.heap.size->Q b->P b):Nq P w cs e:=by
 obtain⟨c,d,f⟩:=h;exact⟨c,d,f.mono hl⟩
theorem Agg {P:Nat->Prop}{w:World}{base:Nat}{xs:List Value}{es:List Stil.F7}(h:w.ownsRow base 48 3 v es.length xs)(hr:RowOf 3 (Nq P w) xs es)(l:∀b,v.ownBlock=some b->P b):J8 P w v es:=by
 obtain⟨a,cap,q,t,g,r⟩:=Iy h;refine⟨a,cap,q,t,λi hi=>?_⟩;obtain⟨⟨b,o,sp⟩,e⟩:∃ad,a=some ad:=by
  cases a with
  | none=>exact absurd rfl (r omz)
  | some ad=>exact⟨ad,rfl⟩
 obtain⟨rfl,rfl,j,u,m,d⟩:=g b o sp e;obtain⟨f,k,n⟩:=hr.2 i hi;have c:=Ag6 hr hi k;refine⟨b,0,e,l b j,m,?_,?_,f,?_,n⟩
 ·rw[A9c];exact d _ _ (c 0 _ rfl)
 ·rw[A9c];exact d _ _ (c 1 _ rfl)
 ·rw[A9c];exact d _ _ (c 2 _ rfl)
theorem Akt {P:Nat->Prop}{w:World}{es:List Stil.F7}(h:J8 P w v es):A7v 3 (Nq P w) w v es:=by
 obtain⟨a,cap,rfl,n,f⟩:=h;refine A1n dcz n λi hi=>?_
 obtain⟨b,o,e,_,_,g,l,d,k,m⟩:=f i hi;refine⟨b,o,e,[.int .i64 es[i].code, .int .i64 es[i].one.op,d],rfl,⟨d,rfl,m⟩,λj u c=>?_⟩
 match j,c with
 | 0,c=>obtain rfl:=A98 c;exact g
 | 1,c=>obtain rfl:=A98 c;exact l
 | 2,c=>obtain rfl:=A98 c;exact k
def Pv (i:Stil.F7):Prop:=(-1000000<=i.code/\i.code<=1000000)/\Au9 i.one
theorem Adv {w:World}{K:Act->World->Prop}{Q:Exit->Act->World->Prop}{E:Prop}
  (hg:o.guard=none) (s x:Operand) (k:o.op=.call {callee:=.builtin .append,args:=#[s,x],argTypes:=#[23,23]})
  (R:Nat->Prop) (W:World) (ns:List Stil.F7) (m:Value) (n:a.eval s=.slice (some ⟨W.heap.size,0,none⟩) 0 0) (hx:a.eval x=m) (l:w=W.alloc (.cells #[] 48))
  (Y:J8 R W m ns) (hl:ns.length<=100000)
  (z:∀d c w' xs,w'.ownsRow W.heap.size 48 3 (.slice (some ⟨d,0,none⟩) ns.length c) ns.length xs->RowOf 3 (Nq (λb=>R b/\b<W.heap.size) w') xs ns->W.heap.size<=d->d<w'.heap.size->w.grownBy w' (some W.heap.size)->K (a.put o.dst (.slice (some ⟨d,0,none⟩) ns.length c)) w'):
  if Region.wanted o (yielded ops a.tmps)=true then Oper.wp prog o a w K Q else E:=by
 obtain⟨L,hi,G,N,O⟩:=info_parts Ov;have C:J8 (λb=>R b/\b<W.heap.size) w m ns:=by
  rw[l];exact(Y.mono λb g h=>⟨h,g⟩).keep (Bf.of_below (Aa _ _))
 have ab:w.heap.size=W.heap.size+1:=by rw[l];simp
 have y:w.ownsRow W.heap.size 48 3 (.slice (some ⟨W.heap.size,0,none⟩) 0 0) 0 []:=by
  rw[l];have:=World.ownsRow_lit (base:=W.heap.size) (e:=48) (size:=3) W #[] 0 omz yAe rfl
  simpa using this
 obtain⟨ad,cap,X,A,xs,f,U⟩:=Akt C;subst X;by_cases hd:ns.length=0
 ·have hn:ns=[]:=List.length_eq_zero_iff.1 hd
  subst hn;have S:Region.wanted o (yielded ops a.tmps)=true:=by simp[Region.wanted,hg]
  rw[if_pos S];have P:xs=[]:=by have:=f.1;simpa using this
  subst P;have r:=z W.heap.size 0 w [] y (RowOf.nil _ _) (A88 _) omz (Abi _ _);simp only[A85] at r hx;unfold Oper.wp execOp;cases ad
  ·have e:Sem.run prog (Builtin.append_ #[23,23] o.type #[.slice (some ⟨W.heap.size,0,none⟩) 0 0, .slice none 0 cap]) w=.ok (.slice (some ⟨W.heap.size,0,none⟩) 0 0) w:=by simp[Builtin.append_,go_sem]
   simp only[k,resolve,invoke,builtin,Sem.run_bind,Sem.run_pure,Result.andThen_ok,Bad,A9l,A97,n,hx,e];exact r
  ·rename_i V
   have e:Sem.run prog (Builtin.append_ #[23,23] o.type #[.slice (some ⟨W.heap.size,0,none⟩) 0 0, .slice (some V) 0 cap]) w=.ok (.slice (some ⟨W.heap.size,0,none⟩) 0 0) w:=by simp[Builtin.append_,go_sem]
   simp only[k,resolve,invoke,builtin,Sem.run_bind,Sem.run_pure,Result.andThen_ok,Bad,A9l,A97,n,hx,e];exact r
 ·obtain⟨p,rfl⟩:∃p,ad=some p:=by
   cases ad with
   | none=>exact absurd (A.2 rfl) (by have:=A.1;omega)
   | some p=>exact⟨p,rfl⟩
  refine Eo hg s x _ k W.heap.size 48 L _ 3 40 underlying23 hi G N O rfl dcz _ _ [] n y _ _ _ xs hx f.1 (U _ rfl) ?_ yAe omz omz ?_
  ·intro u hu
   obtain⟨j,i⟩:=List.getElem?_of_mem hu;have aa:j<ns.length*3:=by rw[<-f.1];exact(List.getElem?_eq_some_iff.1 i).1
   obtain⟨av,M,I⟩:=f.2 (j / 3) omz;have Z:xs[j]?=((xs.drop (j / 3*3)).take 3)[j % 3]?:=by
    rw[Ba4,if_pos omz,Ba5,Nat.mul_comm,Nat.div_add_mod]
   rw[Z,M] at i;obtain⟨F,H,rfl,_⟩:=I;have:u∈[Value.int .i64 ns[j / 3].code, .int .i64 ns[j / 3].one.op, .slice F ns[j / 3].one.args.length H]:=Baz i;simp only[A9o,A99,Bax] at this;rcases this with rfl | rfl | rfl<;>rfl
  ·intro v' w' q T h3
   simp only[A9c,A9u] at q;obtain⟨d,c,rfl,D,J,_,_⟩:=Cf q omz;have t:w.grownBy w' (some W.heap.size):=T;exact z d c w' xs q (f.imp λ_ _ _ h=>h.keep (Bf.of_grown t (λb g e=>by simp only[A96] at e;exact absurd g.2 omz))) D J t
theorem Aa4 {rest:List Oper}{w:World}{Q:Exit->Act->World->Prop}
  (hg:o.guard=none) (s x:Operand) (f:o.op=.call {callee:=.builtin .append,args:=#[s,x],argTypes:=#[23,23]})
  (R:Nat->Prop) (W:World) (ns:List Stil.F7) (e:Value) (k:a.eval s=.slice (some ⟨W.heap.size,0,none⟩) 0 0) (hx:a.eval x=e) (i:w=W.alloc (.cells #[] 48))
  (m:J8 R W e ns) (hl:ns.length<=100000)
  (h:∀d c w' xs,w'.ownsRow W.heap.size 48 3 (.slice (some ⟨d,0,none⟩) ns.length c) ns.length xs->RowOf 3 (Nq (λb=>R b/\b<W.heap.size) w') xs ns->W.heap.size<=d->d<w'.heap.size->w.grownBy w' (some W.heap.size)->wpList prog ops Q rest (a.put o.dst (.slice (some ⟨d,0,none⟩) ns.length c)) w'):
  wpList prog ops Q (o::rest) a w:=by
 refine wpList_plain hg λK l=>?_
 have p:Region.wanted o (yielded #[] a.tmps)=true:=by simp[Region.wanted,hg]
 have:=Adv (ops:=#[]) (K:=K) (Q:=Q) (E:=True) hg s x f R W ns e k hx i m hl (λd c w' xs q g r j n=>l _ _ (h d c w' xs q g r j n))
 rwa [if_pos p] at this
def A6p (e:Ending)(w w':World)(g P:Nat):Prop:=∃(i:Stil.F7) (c:Value),e=.returned (.agg #[.int .i64 i.code, .int .i64 i.one.op,c])/\Ej (λb=>w.heap.size<=b) w' c i.one.args/\Pv i/\i.one.args.length<=3/\Kq w' g P/\w.grownBy w' (some g)
theorem Ac8 (g P:Nat)(w:World)(hr:Kq w g P)(O:P<=90000000):
  Calls prog 14 #[.pointer (some ⟨g,0,none⟩)] w λe w'=>A6p e w w' g (P+100):=by
 have hg:=Sr hr;go_enter func14,ntmps14;go_upto_region 2 with(go_at_call_of 17 (18:Nat);refine(Aa7 g _ _ _ [1,1,1,2,2,2,3,3,4,5,6,7,8,9,10,10,10,11] _ raA omz (Di (by simp[F6,go_sem])) spz yAh spz spz).mono ?_;rintro e f ⟨x,rfl,F,N,j⟩;simp only[A9o,A99,Bax] at F;have G:w.heap.size<f.heap.size:=A82 ltA j.size;obtain⟨m,D,q1,E,l,H⟩:f.cell? ⟨w.heap.size,0,none⟩=some (.int .i64 0)/\f.frozen? ⟨w.heap.size,0,none⟩=false/\f.cell? ⟨w.heap.size,1,none⟩=some (.int .i64 0)/\f.frozen? ⟨w.heap.size,1,none⟩=false/\f.cell? ⟨w.heap.size,2,none⟩=some (.slice none 0 0)/\f.frozen? ⟨w.heap.size,2,none⟩=false:=⟨gcA j,gfA j,gcA j,gfA j,gcA j,gfA j⟩)
 have M:w.heap.size<f.heap.size:=by have:=j.size;simp at this;omega
 have Q:w.grownBy f (some g):=glA;have K:1<=x/\x<=11:=omz
 clear F j hr;by_cases L:x<=3
 ·go_wp2_with (go_at_call 18;refine(Ro g _ _ raA omz).mono ?_;rintro e c ⟨op,t,i,rfl,y,q,A,C,I,d⟩;have u:Hid (Ej (λb=>f.heap.size - 1<b) c t i):=Pg q;obtain⟨k,n,rfl,-⟩:=q;have G:w.heap.size<c.heap.size:=A82 ltA d.size;obtain⟨m,D,q1,E,l,H⟩:c.cell? ⟨w.heap.size,0,none⟩=some (.int .i64 0)/\c.frozen? ⟨w.heap.size,0,none⟩=false/\c.cell? ⟨w.heap.size,1,none⟩=some (.int .i64 0)/\c.frozen? ⟨w.heap.size,1,none⟩=false/\c.cell? ⟨w.heap.size,2,none⟩=some (.slice none 0 0)/\c.frozen? ⟨w.heap.size,2,none⟩=false:=⟨gcA d,gfA d,gcA d,gfA d,gcA d,gfA d⟩)
  have z:∀W:World,Bf (λb=>f.heap.size - 1<b) W (((W.setCell ⟨w.heap.size,0,none⟩ (.int .i64 x)).setCell ⟨w.heap.size,1,none⟩ (.int .i64 op)).setCell ⟨w.heap.size,2,none⟩ (.slice k i.length n)):=λW=>((Bf.set omz _).trans (Bf.set omz _)).trans (Bf.set omz _)
  refine bodyPost_ret (v:=.agg #[.int .i64 x, .int .i64 op, .slice k i.length n]) (by simp[results,results14,go_sem,m,q1,l]) rfl ?_;exact⟨⟨x,⟨op,i⟩⟩,_,rfl,(u.keep (z _)).mono (λb _ J=>omz),⟨by simp only;omega,⟨y,A,by simp only;omega⟩⟩,C,rlA,glA⟩
 ·by_cases hd:x=10
  ·subst hd
   go_wp2_with (go_at_call 37;refine(Aqg g _ _ raA omz).mono ?_;rintro e c ⟨op,t,i,rfl,y,q,A,C,I,d⟩;have u:Hid (Ej (λb=>f.heap.size - 1<b) c t i):=Pg q;obtain⟨k,n,rfl,-⟩:=q;have G:w.heap.size<c.heap.size:=A82 ltA d.size;obtain⟨m,D,q1,E,l,H⟩:c.cell? ⟨w.heap.size,0,none⟩=some (.int .i64 0)/\c.frozen? ⟨w.heap.size,0,none⟩=false/\c.cell? ⟨w.heap.size,1,none⟩=some (.int .i64 0)/\c.frozen? ⟨w.heap.size,1,none⟩=false/\c.cell? ⟨w.heap.size,2,none⟩=some (.slice none 0 0)/\c.frozen? ⟨w.heap.size,2,none⟩=false:=⟨gcA d,gfA d,gcA d,gfA d,gcA d,gfA d⟩)
   have z:∀W:World,Bf (λb=>f.heap.size - 1<b) W (((W.setCell ⟨w.heap.size,0,none⟩ (.int .i64 10)).setCell ⟨w.heap.size,1,none⟩ (.int .i64 op)).setCell ⟨w.heap.size,2,none⟩ (.slice k i.length n)):=λW=>((Bf.set omz _).trans (Bf.set omz _)).trans (Bf.set omz _)
   refine bodyPost_ret (v:=.agg #[.int .i64 10, .int .i64 op, .slice k i.length n]) (by simp[results,results14,go_sem,m,q1,l]) rfl ?_;exact⟨⟨10,⟨op,i⟩⟩,_,rfl,(u.keep (z _)).mono (λb _ J=>omz),⟨by simp only;omega,⟨y,A,by simp only;omega⟩⟩,C,rlA,glA⟩
  ·go_wp2
   refine bodyPost_ret (v:=.agg #[.int .i64 x, .int .i64 0, .slice none 0 0]) (by simp[results,results14,go_sem,m,q1,l]) rfl ?_;exact⟨⟨x,⟨0,[]⟩⟩,_,rfl,Ajh _ _,⟨by simp only;omega,⟨spz,λ_ h=>yBb,spz⟩⟩,spz,rlA,glA⟩
def Abv (q:Nat)(e:Ending)(w w':World)(g P n:Nat):Prop:=∃(l:List Stil.F7) (v:Value),e=.returned v/\J8 (λb=>g<b) w' v l/\(∀i∈l,Pv i/\i.one.args.length<=q)/\l.length<=n/\Kq w' g P/\Below g w w'
end Go.Proofs.YtobbpffcggchmaaGreatDoor
