import Derived.Test.YtifcnfeppdbjdaaGreatDoorFRe
namespace Go.Proofs.YtifcnfeppdbjdaaGreatDoor
open Stil Go.RowKit Go.Sort Go.BigFrame
variable {B base g o s:Nat}{cs xs ys:List Value}{v v':Value}{w':World}{α:Type}
def Ac (P:Nat->Prop)(w w':World):Prop:=w.heap.size<=w'.heap.size/\∀b o,P b->b<w.heap.size->w'.cell? ⟨b,o,none⟩=w.cell? ⟨b,o,none⟩
theorem Ac.refl (P:Nat->Prop)(w:World):Ac P w w:=⟨CG _,λ_ _ _ _=>rfl⟩
theorem Ac.trans {P:Nat->Prop}{a b c:World}(h1:Ac P a b)(f:Ac P b c):Ac P a c:=
 ⟨CJ h1.1 f.1,λx o d e=>(f.2 x o d (CB e h1.1)).trans (h1.2 x o d e)⟩
theorem Ac.of_below {P:Nat->Prop}{w:World}(h:AO w w'):Ac P w w':=⟨h.size,λb o _ a=>h.cell (p:=(AK b o)) a⟩
theorem Ac.of_grown {P:Nat->Prop}{w:World}{r:Option Nat}(h:w.grownBy w' r)(hr:∀b,P b->r≠some b):Ac P w w':=⟨h.size,λb o c a=>by
 unfold World.cell?
 rw[h.block b a (λe=>hr b c e.symm)]⟩
theorem Ac.set {P:Nat->Prop}{w:World}{b:Nat}(a:¬P b)(v:Value):Ac P w (w.setCell ⟨b,o,none⟩ v):=⟨((Below.refl 0 w).setCell (DI _) v).size,λx p c _=>by
 have f:¬x=b:=λe=>a (e ▸ c)
 have d:¬b=x:=λe=>a (e ▸ c)
 simp[go_sem]⟩
def Zr (a:Option Addr)(n cap:Nat):Prop:=n<=cap/\(a=none->cap=0)
def Bi (P:Nat->Prop)(w:World)(v:Value)(c:List Stil.CC):Prop:=∃a cap,v=AE a c.length cap/\Zr a c.length cap/\∀i (h:i<c.length),∃b o,a=some ⟨b,o,none⟩/\P b/\b<w.heap.size/\Jg w b (o+i*3) c[i]
theorem Jg.keepIn {P:Nat->Prop}{w:World}{b:Nat}{d:Stil.CC}(h:Jg w b o d)(a:Ac P w w')(hl:P b)(c:b<w.heap.size):Jg w' b o d:=by
 obtain⟨f,i,e⟩:=h;exact⟨by rw[a.2 _ _ hl c];exact f,by rw[a.2 _ _ hl c];exact i,by rw[a.2 _ _ hl c];exact e⟩
theorem Bi.keep {P:Nat->Prop}{w:World}{f:List Stil.CC}(h:Bi P w v f)(e:Ac P w w'):Bi P w' v f:=by
 obtain⟨a,cap,k,m,l⟩:=h;refine⟨a,cap,k,m,λi hi=>?_⟩;obtain⟨b,o,j,c,d,hd⟩:=l i hi;exact⟨b,o,j,c,CB d e.1,hd.keepIn e c d⟩
theorem Bi.mono {P Q:Nat->Prop}{w:World}{c:List Stil.CC}(h:Bi Q w v c)(hl:∀b,b<w.heap.size->Q b->P b):Bi P w v c:=by
 obtain⟨a,cap,k,f,l⟩:=h;refine⟨a,cap,k,f,λi hi=>?_⟩;obtain⟨b,o,e,j,d,hd⟩:=l i hi;exact⟨b,o,e,hl _ d j,d,hd⟩
theorem Bi.at {P:Nat->Prop}{w:World}{c:List Stil.CC}(h:Bi P w v c):Dk w v c:=by
 obtain⟨a,cap,f,k,j⟩:=h;refine⟨a,cap,f,λi hi=>?_⟩;obtain⟨b,o,d,l,e,hd⟩:=j i hi;exact⟨b,o,d,e,hd⟩
def Sm (P:Nat->Prop)(w:World):Nat->Nat->Stil.B9->Prop
 | b,o,⟨k,e,kids⟩=>w.cell? ⟨b,o,none⟩=some (AB k)/\w.cell? ⟨b,o+1,none⟩=some (AB e.op)/\
   (∃d,w.cell? ⟨b,o+2,none⟩=some d/\Bi P w d e.args)/\
   ∃a cap,w.cell? ⟨b,o+3,none⟩=some (AE a kids.length cap)/\Zr a kids.length cap/\∀i (h:i<kids.length),∃c f,a=some ⟨c,f,none⟩/\P c/\c<w.heap.size/\
    (have:=MX (CN h);Sm P w c (f+i*4) kids[i])
theorem Lx (P:Nat->Prop)(w:World)(b o:Nat)(k:Int)(e:Stil.Elem)(kids:List Stil.B9):Sm P w b o ⟨k,e,kids⟩=(w.cell? (AK b o)=some (AB k)/\w.cell? (AK b (o+1))=some (AB e.op)/\
   (∃d,w.cell? (AK b (o+2))=some d/\Bi P w d e.args)/\
   ∃a cap,w.cell? (AK b (o+3))=some (AE a kids.length cap)/\Zr a kids.length cap/\∀i (h:i<kids.length),∃c f,a=some (AK c f)/\P c/\c<w.heap.size/\Sm P w c (f+i*4) kids[i]):=by rw[Sm]
def Dp (P:Nat->Prop)(w:World)(v:Value)(ns:List Stil.B9):Prop:=∃a cap,v=AE a ns.length cap/\Zr a ns.length cap/\∀i (h:i<ns.length),∃b o,a=some ⟨b,o,none⟩/\P b/\b<w.heap.size/\Sm P w b (o+i*4) ns[i]
theorem Rt (P:Nat->Prop)(w:World)(b o:Nat)(n:Stil.B9):Sm P w b o n↔(w.cell? (AK b o)=some (AB n.kind)/\w.cell? (AK b (o+1))=some (AB n.one.op)/\
   (∃m,w.cell? (AK b (o+2))=some m/\Bi P w m n.one.args)/\∃l,w.cell? (AK b (o+3))=some l/\Dp P w l n.kids):=by
 obtain⟨k,e,kids⟩:=n;rw[Lx];constructor
 ·rintro⟨h,j,c,a,cap,f,d,i⟩;exact⟨h,j,c,_,f,a,cap,rfl,d,i⟩
 ·rintro⟨h,j,c,_,f,a,cap,rfl,d,i⟩;exact⟨h,j,c,a,cap,f,d,i⟩
theorem zv0 {p:Prop}(h:p:=by
 obtain⟨b',o',ha,hlo,hl',hn⟩:=h6 i hi
 exact⟨b',o',ha,hlo,CB hl' hk.1,ih _ (CN hi) b' _ hn hlo hl'⟩):p:=h
theorem Sm.keep {P:Nat->Prop}{w:World}(hk:Ac P w w'):∀(n:Stil.B9) (b o:Nat),Sm P w b o n->P b->b<w.heap.size->Sm P w' b o n:=by
 intro n;induction n using Gf with
 | h k e kids ih=>
  intro b o h d c;rw[Lx] at h ⊢;obtain⟨q,t,⟨f,m,l⟩,a,cap,r,j,h6⟩:=h;refine⟨?_,?_,⟨f,?_,l.keep hk⟩,a,cap,?_,j,λi hi=>?_⟩
  ·rw[hk.2 _ _ d c];exact q
  ·rw[hk.2 _ _ d c];exact t
  ·rw[hk.2 _ _ d c];exact m
  ·rw[hk.2 _ _ d c];exact r
  ·exact zv0
theorem Dp.keep {P:Nat->Prop}{w:World}{ns:List Stil.B9}(h:Dp P w v ns)(e:Ac P w w'):Dp P w' v ns:=by
 obtain⟨a,cap,j,l,k⟩:=h;refine⟨a,cap,j,l,λi hi=>?_⟩;obtain⟨b,o,f,c,d,hd⟩:=k i hi;exact⟨b,o,f,c,CB d e.1,Sm.keep e _ _ _ hd c d⟩
theorem Sm.mono {P Q:Nat->Prop}{w:World}(hl:∀b,b<w.heap.size->Q b->P b):∀(n:Stil.B9) (b o:Nat),Sm Q w b o n->Sm P w b o n:=by
 intro n;induction n using Gf with
 | h k e kids x=>
  intro b o h;rw[Lx] at h ⊢;obtain⟨y,A,⟨l,u,p⟩,a,cap,z,m,r⟩:=h;refine⟨y,A,⟨l,u,p.mono hl⟩,a,cap,z,m,λi hi=>?_⟩;obtain⟨c,t,f,q,d,j⟩:=r i hi;exact⟨c,t,f,hl _ d q,d,x _ (CN hi) c _ j⟩
theorem Dp.mono {P Q:Nat->Prop}{w:World}{ns:List Stil.B9}(h:Dp Q w v ns)(hl:∀b,b<w.heap.size->Q b->P b):Dp P w v ns:=by
 obtain⟨a,cap,j,e,k⟩:=h;refine⟨a,cap,j,e,λi hi=>?_⟩;obtain⟨b,o,d,f,c,hd⟩:=k i hi;exact⟨b,o,d,hl _ c f,c,Sm.mono hl _ _ _ hd⟩
theorem Sm.at {P:Nat->Prop}{w:World}:∀(n:Stil.B9) (b o:Nat),Sm P w b o n->Un w b o n:=by
 intro n;induction n using Gf with
 | h k e kids r=>
  intro b o h;rw[Lx] at h;rw[Ly];obtain⟨u,y,⟨j,q,l⟩,a,cap,x,z,m⟩:=h;refine⟨u,y,⟨j,q,l.at⟩,a,cap,x,λi hi=>?_⟩;obtain⟨c,p,d,A,t,f⟩:=m i hi;exact⟨c,p,d,t,r _ (CN hi) c _ f⟩
theorem Dp.at {P:Nat->Prop}{w:World}{ns:List Stil.B9}(h:Dp P w v ns):Gn w v ns:=by
 obtain⟨a,cap,e,j,f⟩:=h;refine⟨a,cap,e,λi hi=>?_⟩;obtain⟨b,o,c,k,d,hd⟩:=f i hi;exact⟨b,o,c,d,Sm.at _ _ _ hd⟩
def MU (P:Nat->Prop)(w:World)(b o:Nat)(e:Stil.Elem):Prop:=w.cell? ⟨b,o,none⟩=some (AB e.op)/\∃a,w.cell? ⟨b,o+1,none⟩=some a/\Bi P w a e.args
def Dq (P:Nat->Prop)(w:World)(v:Value)(es:List Stil.Elem):Prop:=∃a cap,v=AE a es.length cap/\Zr a es.length cap/\∀i (h:i<es.length),∃b o,a=some ⟨b,o,none⟩/\P b/\b<w.heap.size/\MU P w b (o+i*2) es[i]
theorem MU.keep {P:Nat->Prop}{w:World}{b:Nat}{e:Stil.Elem}(h:MU P w b o e)(a:Ac P w w')(hl:P b)(c:b<w.heap.size):MU P w' b o e:=by
 obtain⟨f,i,j,d⟩:=h;exact⟨by rw[a.2 _ _ hl c];exact f,i,by rw[a.2 _ _ hl c];exact j,d.keep a⟩
theorem Dq.keep {P:Nat->Prop}{w:World}{es:List Stil.Elem}(h:Dq P w v es)(e:Ac P w w'):Dq P w' v es:=by
 obtain⟨a,cap,j,l,k⟩:=h;refine⟨a,cap,j,l,λi hi=>?_⟩;obtain⟨b,o,f,c,d,hd⟩:=k i hi;exact⟨b,o,f,c,CB d e.1,hd.keep e c d⟩
theorem Dq.mono {P Q:Nat->Prop}{w:World}{es:List Stil.Elem}(h:Dq Q w v es)(hl:∀b,b<w.heap.size->Q b->P b):Dq P w v es:=by
 obtain⟨a,cap,m,j,n⟩:=h;refine⟨a,cap,m,j,λi hi=>?_⟩;obtain⟨b,o,d,k,c,l,f,p,e⟩:=n i hi;exact⟨b,o,d,hl _ c k,c,l,f,p,e.mono hl⟩
theorem Dq.at {P:Nat->Prop}{w:World}{es:List Stil.Elem}(h:Dq P w v es):Iz w v es:=by
 obtain⟨a,cap,k,n,l⟩:=h;refine⟨a,cap,k,λi hi=>?_⟩;obtain⟨b,o,c,p,f,j,e,m,d⟩:=l i hi;exact⟨b,o,c,f,j,e,m,d.at⟩
def Xl (P:Nat->Prop)(w:World):Nat->Nat->Stil.B8->Prop
 | b,o,⟨n,f,kids⟩=>Sm P w b o n/\(∃d,w.cell? ⟨b,o+4,none⟩=some d/\Dq P w d f)/\
   ∃a cap,w.cell? ⟨b,o+5,none⟩=some (AE a kids.length cap)/\Zr a kids.length cap/\∀i (h:i<kids.length),∃c e,a=some ⟨c,e,none⟩/\P c/\c<w.heap.size/\
    (have:=MX (CN h);Xl P w c (e+i*6) kids[i])
theorem L0 (P:Nat->Prop)(w:World)(b o:Nat)(n:Stil.B9)(d:List Stil.Elem)(kids:List Stil.B8):Xl P w b o ⟨n,d,kids⟩=(Sm P w b o n/\(∃e,w.cell? (AK b (o+4))=some e/\Dq P w e d)/\
   ∃a cap,w.cell? (AK b (o+5))=some (AE a kids.length cap)/\Zr a kids.length cap/\∀i (h:i<kids.length),∃c f,a=some (AK c f)/\P c/\c<w.heap.size/\Xl P w c (f+i*6) kids[i]):=by rw[Xl]
def Em (P:Nat->Prop)(w:World)(v:Value)(l:List Stil.B8):Prop:=∃a cap,v=AE a l.length cap/\Zr a l.length cap/\∀i (h:i<l.length),∃b o,a=some ⟨b,o,none⟩/\P b/\b<w.heap.size/\Xl P w b (o+i*6) l[i]
theorem LW (P:Nat->Prop)(w:World)(b o:Nat)(n:Stil.B8):Xl P w b o n↔(Sm P w b o n.net/\(∃j,w.cell? (AK b (o+4))=some j/\Dq P w j n.coils)/\∃l,w.cell? (AK b (o+5))=some l/\Em P w l n.kids):=by
 obtain⟨k,e,kids⟩:=n;rw[L0];constructor
 ·rintro⟨h,c,a,cap,f,d,i⟩;exact⟨h,c,_,f,a,cap,rfl,d,i⟩
 ·rintro⟨h,c,_,f,a,cap,rfl,d,i⟩;exact⟨h,c,a,cap,f,d,i⟩
theorem Xl.keep {P:Nat->Prop}{w:World}(hk:Ac P w w'):∀(n:Stil.B8) (b o:Nat),Xl P w b o n->P b->b<w.heap.size->Xl P w' b o n:=by
 intro n;induction n using Gl with
 | h n q kids ih=>
  intro b o h d c;rw[L0] at h ⊢;obtain⟨l,⟨j,k,f⟩,a,cap,m,e,h6⟩:=h;refine⟨Sm.keep hk _ _ _ l d c,⟨j,?_,f.keep hk⟩,a,cap,?_,e,λi hi=>?_⟩
  ·rw[hk.2 _ _ d c];exact k
  ·rw[hk.2 _ _ d c];exact m
  ·exact zv0
theorem Em.keep {P:Nat->Prop}{w:World}{ns:List Stil.B8}(h:Em P w v ns)(e:Ac P w w'):Em P w' v ns:=by
 obtain⟨a,cap,j,l,k⟩:=h;refine⟨a,cap,j,l,λi hi=>?_⟩;obtain⟨b,o,f,c,d,hd⟩:=k i hi;exact⟨b,o,f,c,CB d e.1,Xl.keep e _ _ _ hd c d⟩
theorem Xl.mono {P Q:Nat->Prop}{w:World}(hl:∀b,b<w.heap.size->Q b->P b):∀(n:Stil.B8) (b o:Nat),Xl Q w b o n->Xl P w b o n:=by
 intro n;induction n using Gl with
 | h n y kids t=>
  intro b o h;rw[L0] at h ⊢;obtain⟨u,⟨q,r,k⟩,a,cap,x,j,m⟩:=h;refine⟨Sm.mono hl _ _ _ u,⟨q,r,k.mono hl⟩,a,cap,x,j,λi hi=>?_⟩;obtain⟨c,p,e,l,d,f⟩:=m i hi;exact⟨c,p,e,hl _ d l,d,t _ (CN hi) c _ f⟩
theorem Em.mono {P Q:Nat->Prop}{w:World}{ns:List Stil.B8}(h:Em Q w v ns)(hl:∀b,b<w.heap.size->Q b->P b):Em P w v ns:=by
 obtain⟨a,cap,j,e,k⟩:=h;refine⟨a,cap,j,e,λi hi=>?_⟩;obtain⟨b,o,d,f,c,hd⟩:=k i hi;exact⟨b,o,d,hl _ c f,c,Xl.mono hl _ _ _ hd⟩
theorem Xl.at {P:Nat->Prop}{w:World}:∀(n:Stil.B8) (b o:Nat),Xl P w b o n->Xm w b o n:=by
 intro n;induction n using Gl with
 | h n u kids p=>
  intro b o h;rw[L0] at h;rw[QE];obtain⟨r,⟨l,m,f⟩,a,cap,t,x,j⟩:=h;refine⟨Sm.at _ _ _ r,⟨l,m,f.at⟩,a,cap,t,λi hi=>?_⟩;obtain⟨c,k,d,y,q,e⟩:=j i hi;exact⟨c,k,d,q,p _ (CN hi) c _ e⟩
theorem Em.at {P:Nat->Prop}{w:World}{ns:List Stil.B8}(h:Em P w v ns):Fe w v ns:=by
 obtain⟨a,cap,e,j,f⟩:=h;refine⟨a,cap,e,λi hi=>?_⟩;obtain⟨b,o,c,k,d,hd⟩:=f i hi;exact⟨b,o,c,d,Xl.at _ _ _ hd⟩
def RowOf {α:Type}(s:Nat)(R:List Value->α->Prop)(xs:List Value)(a:List α):Prop:=xs.length=a.length*s/\∀i (h:i<a.length),R ((xs.drop (i*s)).take s) a[i]
theorem RowOf.nil (s:Nat)(R:List Value->α->Prop):RowOf s R [] []:=⟨AU,λi h=>by simp at h⟩
theorem RowOf.imp {R Q:List Value->α->Prop}{b:List α}(h:RowOf s R xs b)(c:∀cs a,a∈b->R cs a->Q cs a):RowOf s Q xs b:=
 ⟨h.1,λi hi=>c _ _ (CN hi) (h.2 i hi)⟩
theorem RowOf.append {R:List Value->α->Prop}{a c:List α}(h:RowOf s R xs a)(k:RowOf s R ys c):RowOf s R (xs++ys) (a++c):=by
 have d:=h.1;have j:=k.1;refine⟨by simp[d,j,Nat.add_mul],λi hi=>?_⟩;by_cases b:i<a.length
 ·have l:i*s+s<=a.length*s:=by rw[<-G3];exact FD s b
  rw[eS b,List.drop_append_of_le_length AQ,List.take_append_of_le_length Ax];exact h.2 i b
 ·have f:i - a.length<c.length:=by simp at hi;omega
  have e:i*s=xs.length+(i - a.length)*s:=by rw[d,<-Nat.add_mul];congr 1;omega
  rw[List.getElem_append_right AQ,e,List.drop_append];simp only[Nat.le_add_right,RI,C5,Nat.add_sub_cancel_left];exact k.2 _ f
theorem RowOf.one {R:List Value->α->Prop}{a:α}(hl:cs.length=s)(h:R cs a):RowOf s R cs [a]:=
 ⟨by simp[hl],λi hi=>by
  have:i=0:=by simp at hi;omega
  subst this
  simpa[<-hl] using h⟩
theorem RowOf.set {R:List Value->α->Prop}{c:List α}{k:Nat}{a:α}(h:RowOf s R xs c)(p:k<c.length)(hl:ys.length=xs.length)(l:R ((ys.drop (k*s)).take s) a)
  (n:∀j,j<k*s\/k*s+s<=j->ys[j]?=xs[j]?):RowOf s R ys (c.set k a):=by
 refine⟨by simp[hl,h.1],λi hi=>?_⟩;by_cases e:i=k
 ·subst e
  rw[List.getElem_set_self];exact l
 ·rw[List.getElem_set_ne (λx=>e x.symm)]
  have f:i<c.length:=by simpa using hi
  have m:=h.2 i f;have:(ys.drop (i*s)).take s=(xs.drop (i*s)).take s:=by
   apply K2;intro j;simp only[GN,GO];by_cases b:j<s
   ·rw[if_pos b,if_pos b]
    apply n;rcases Nat.lt_or_gt_of_ne e with d | d
    ·left
     have:i*s+s<=k*s:=by rw[<-G3];exact FD s d
     omega
    ·right
     have:k*s+s<=i*s:=by rw[<-G3];exact FD s d
     omega
   ·rw[if_neg b,if_neg b]
  rw[this];exact m
def Nw (P:Nat->Prop)(w:World)(cs:List Value)(e:Stil.Elem):Prop:=∃a,cs=[AB e.op,a]/\Bi P w a e.args
def Zn (P:Nat->Prop)(w:World)(cs:List Value)(n:Stil.B9):Prop:=∃b a,cs=[AB n.kind,AB n.one.op,b,a]/\Bi P w b n.one.args/\Dp P w a n.kids
def N9 (P:Nat->Prop)(w:World)(cs:List Value)(a:Stil.B8):Prop:=∃e c b d,cs=[AB a.net.kind,AB a.net.one.op,e,c,b,d]/\Bi P w e a.net.one.args/\Dp P w c a.net.kids/\Dq P w b a.coils/\Em P w d a.kids
theorem Nw.keep {P:Nat->Prop}{w:World}{e:Stil.Elem}(h:Nw P w cs e)(a:Ac P w w'):Nw P w' cs e:=by
 obtain⟨c,b,d⟩:=h;exact⟨c,b,d.keep a⟩
theorem Zn.keep {P:Nat->Prop}{w:World}{n:Stil.B9}(h:Zn P w cs n)(a:Ac P w w'):Zn P w' cs n:=by
 obtain⟨e,d,c,f,b⟩:=h;exact⟨e,d,c,f.keep a,b.keep a⟩
theorem N9.keep {P:Nat->Prop}{w:World}{n:Stil.B8}(h:N9 P w cs n)(a:Ac P w w'):N9 P w' cs n:=by
 obtain⟨i,e,b,f,d,k,c,l,j⟩:=h;exact⟨i,e,b,f,d,k.keep a,c.keep a,l.keep a,j.keep a⟩
theorem Nw.mono {P Q:Nat->Prop}{w:World}{e:Stil.Elem}(h:Nw Q w cs e)(hl:∀b,b<w.heap.size->Q b->P b):Nw P w cs e:=by
 obtain⟨c,a,d⟩:=h;exact⟨c,a,d.mono hl⟩
theorem Zn.mono {P Q:Nat->Prop}{w:World}{n:Stil.B9}(h:Zn Q w cs n)(hl:∀b,b<w.heap.size->Q b->P b):Zn P w cs n:=by
 obtain⟨e,d,c,f,a⟩:=h;exact⟨e,d,c,f.mono hl,a.mono hl⟩
theorem N9.mono {P Q:Nat->Prop}{w:World}{n:Stil.B8}(h:N9 Q w cs n)(hl:∀b,b<w.heap.size->Q b->P b):N9 P w cs n:=by
 obtain⟨i,e,a,f,d,k,c,l,j⟩:=h;exact⟨i,e,a,f,d,k.mono hl,c.mono hl,l.mono hl,j.mono hl⟩
theorem Hg {w:World}{n:Nat}{e:TypeId}(h:w.ownsRow base e s v n xs):∃a cap,v=AE a n cap/\Zr a n cap/\(∀b o sp,a=some ⟨b,o,sp⟩->o=0/\sp=none/\v.ownBlock=some b/\base<=b/\b<w.heap.size/\∀j u,xs[j]?=some u->w.cell? (AK b j)=some u)/\(0<n->a≠none):=by
 rcases h.2 with⟨l,r⟩ | ⟨g,cap,cur,d,q,y,t,x⟩
 ·have k:=r
  subst k;exact⟨none,0,l,⟨CG _,λ_=>rfl⟩,λb o sp c=>(by cases c),λm=>absurd m AQ⟩
 ·refine⟨_,cap,d,⟨t,λc=>(by cases c)⟩,λb o sp c=>?_,λ_ c=>(by cases c)⟩
  simp only[CZ,Addr.mk.injEq] at c;obtain⟨rfl,rfl,rfl⟩:=c;have f:v.ownBlock=some g:=by rw[d];rfl
  refine⟨rfl,rfl,f,q,(h.lt g f).2,λj u i=>?_⟩;have z:=(List.getElem?_eq_some_iff.1 i).1;subst d;have:=h.cellAt j (by have:=h.1;omega)
  rw[this];exact i
theorem JS {R:List Value->α->Prop}{b:List α}(_h:RowOf s R xs b){i:Nat}(_hi:i<b.length)(c:(xs.drop (i*s)).take s=cs):∀j u,cs[j]?=some u->xs[i*s+j]?=some u:=by
 intro j u a;rw[<-c] at a;simp only[GN,GO] at a;split at a
 ·exact a
 ·cases a
theorem Ju {P:Nat->Prop}{w:World}{es:List Stil.Elem}(h:w.ownsRow base 51 2 v es.length xs)(hr:RowOf 2 (Nw P w) xs es)(n:∀b,v.ownBlock=some b->P b):Dq P w v es:=by
 obtain⟨a,cap,r,m,f,k⟩:=Hg h;refine⟨a,cap,r,m,λi hi=>?_⟩;obtain⟨⟨b,o,sp⟩,e⟩:∃ad,a=some ad:=by
  cases a with
  | none=>exact absurd rfl (k AQ)
  | some ad=>exact⟨ad,rfl⟩
 obtain⟨rfl,rfl,j,x,t,c⟩:=f b o sp e;obtain⟨l,q,u⟩:=hr.2 i hi;have d:=JS hr hi q;refine⟨b,0,e,n b j,t,?_,l,?_,u⟩
 ·rw[CV];exact c _ _ (d 0 _ rfl)
 ·rw[CV];exact c _ _ (d 1 _ rfl)
theorem Pn {P:Nat->Prop}{w:World}{ns:List Stil.B9}(h:w.ownsRow base 59 4 v ns.length xs)(hr:RowOf 4 (Zn P w) xs ns)(q:∀b,v.ownBlock=some b->P b):Dp P w v ns:=by
 obtain⟨a,cap,u,n,f,l⟩:=Hg h;refine⟨a,cap,u,n,λi hi=>?_⟩;obtain⟨⟨b,o,sp⟩,e⟩:∃ad,a=some ad:=by
  cases a with
  | none=>exact absurd rfl (l AQ)
  | some ad=>exact⟨ad,rfl⟩
 obtain⟨rfl,rfl,j,z,x,c⟩:=f b o sp e;obtain⟨m,k,r,y,t⟩:=hr.2 i hi;have d:=JS hr hi r;refine⟨b,0,e,q b j,x,(Rt _ _ _ _ _).2 ⟨?_,?_,⟨m,?_,y⟩,k,?_,t⟩⟩
 ·rw[CV];exact c _ _ (d 0 _ rfl)
 ·rw[CV];exact c _ _ (d 1 _ rfl)
 ·rw[CV];exact c _ _ (d 2 _ rfl)
 ·rw[CV];exact c _ _ (d 3 _ rfl)
theorem Fq {P:Nat->Prop}{w:World}{ns:List Stil.B8}(h:w.ownsRow base 62 6 v ns.length xs)(hr:RowOf 6 (N9 P w) xs ns)(t:∀b,v.ownBlock=some b->P b):Em P w v ns:=by
 obtain⟨a,cap,A,r,j,n⟩:=Hg h;refine⟨a,cap,A,r,λi hi=>?_⟩;obtain⟨⟨b,o,sp⟩,e⟩:∃ad,a=some ad:=by
  cases a with
  | none=>exact absurd rfl (n AQ)
  | some ad=>exact⟨ad,rfl⟩
 obtain⟨rfl,rfl,k,E,C,c⟩:=j b o sp e;obtain⟨q,l,y,m,u,D,x,z,f⟩:=hr.2 i hi;have d:=JS hr hi u;refine⟨b,0,e,t b k,C,(LW _ _ _ _ _).2 ⟨(Rt _ _ _ _ _).2 ⟨?_,?_,⟨q,?_,D⟩,l,?_,x⟩,⟨y,?_,z⟩,m,?_,f⟩⟩
 ·rw[CV];exact c _ _ (d 0 _ rfl)
 ·rw[CV];exact c _ _ (d 1 _ rfl)
 ·rw[CV];exact c _ _ (d 2 _ rfl)
 ·rw[CV];exact c _ _ (d 3 _ rfl)
 ·rw[CV];exact c _ _ (d 4 _ rfl)
 ·rw[CV];exact c _ _ (d 5 _ rfl)
theorem Ax2 {R:List Value->α->Prop}{a:List α}(f:Nat->Value)(h:∀i (hi:i<a.length),R ((List.range s).map λj=>f (i*s+j)) a[i]):RowOf s R ((List.range (a.length*s)).map f) a:=by
 refine⟨AU,λi hi=>?_⟩;have e:(((List.range (a.length*s)).map f).drop (i*s)).take s=(List.range s).map λj=>f (i*s+j):=by
  have c:i*s+s<=a.length*s:=by rw[<-G3];exact FD s hi
  apply K2;intro j;simp only[GN,GO,JK];by_cases b:j<s
  ·rw[if_pos b,RN AQ,RN b];rfl
  ·rw[if_neg b,J2 Ax];rfl
 rw[e];exact h i hi
def LA {α:Type}(s:Nat)(R:List Value->α->Prop)(w:World)(v:Value)(b:List α):Prop:=∃a cap,v=AE a b.length cap/\Zr a b.length cap/\∃xs,RowOf s R xs b/\∀ad,a=some ad->∀j u,xs[j]?=some u->w.cell? (ad.add j)=some u
theorem PS {R:List Value->α->Prop}{w:World}{a:Option Addr}{cap:Nat}{d:List α}(y:0<s)(t:Zr a d.length cap)(h:∀i (hi:i<d.length),∃b o,a=some (AK b o)/\∃cs:List Value,cs.length=s/\R cs d[i]/\∀j u,cs[j]?=some u->w.cell? (AK b (o+i*s+j))=some u):LA s R w (AE a d.length cap) d:=by
 refine⟨a,cap,rfl,t,?_⟩;by_cases k:d=[]
 ·subst k
  exact⟨[],RowOf.nil _ _,λad _ j u c=>by simp at c⟩
 ·obtain⟨b,o,rfl,_⟩:=h 0 (by cases d with | nil=>exact absurd rfl k | cons _ _=>simp)
  have n:∀i (hi:i<d.length),∃cs:List Value,cs.length=s/\R cs d[i]/\∀j u,cs[j]?=some u->w.cell? (AK b (o+i*s+j))=some u:=by
   intro i hi;obtain⟨A,C,e,x⟩:=h i hi;simp only[CZ,Addr.mk.injEq,E0] at e;obtain⟨rfl,rfl⟩:=e;exact x
  refine⟨_,Ax2 (λj=>(w.cell? (AK b (o+j))).getD (AB 0)) (λi hi=>?_),λad z j u c=>?_⟩
  ·obtain⟨cs,m,q,f⟩:=n i hi
   have e:((List.range s).map λj=>(w.cell? (AK b (o+(i*s+j)))).getD (AB 0))=cs:=by
    apply K2;intro j;by_cases c:j<s
    ·rw[JK,RN c,DX AQ]
     simp only[JM,CZ];rw[<-Nat.add_assoc,f j cs[j] (DX AQ)];rfl
    ·rw[J2 Ax,J2 AQ]
   rw[e];exact q
  ·cases z
   rw[JK] at c;have l:j<d.length*s:=by
    apply Classical.byContradiction;intro D;rw[J2 Ax] at c;cases c
   rw[RN l] at c;simp only[JM,CZ] at c;have hi:=Nat.div_lt_of_lt_mul (by rw[Nat.mul_comm];exact l);obtain⟨cs,m,q,f⟩:=n (j / s) hi;have r:j % s<cs.length:=by rw[m];exact Nat.mod_lt _ y
   have:=f (j % s) cs[j % s] (DX r)
   have e:o+j / s*s+j % s=o+j:=by have:=Nat.div_add_mod j s;rw[Nat.mul_comm] at this;omega
   rw[e] at this;rw[this] at c;rw[Addr.add_lit,this,<-c];rfl
theorem sL {P:Nat->Prop}{w:World}{es:List Stil.Elem}(h:Dq P w v es):LA 2 (Nw P w) w v es:=by
 obtain⟨a,cap,rfl,k,m⟩:=h;refine PS AY k λi hi=>?_
 obtain⟨b,o,e,_,_,l,d,n,f⟩:=m i hi;refine⟨b,o,e,[AB es[i].op,d],rfl,⟨d,rfl,f⟩,λj u c=>?_⟩
 match j,c with
 | 0,c=>obtain rfl:=DG c;exact l
 | 1,c=>obtain rfl:=DG c;exact n
theorem uY {P:Nat->Prop}{w:World}{ns:List Stil.B9}(h:Dp P w v ns):LA 4 (Zn P w) w v ns:=by
 obtain⟨a,cap,rfl,l,t⟩:=h;refine PS AY l λi hi=>?_
 obtain⟨b,o,f,_,_,k⟩:=t i hi;obtain⟨r,y,⟨e,q,m⟩,d,x,n⟩:=(Rt _ _ _ _ _).1 k;refine⟨b,o,f,[AB ns[i].kind,AB ns[i].one.op,e,d],rfl,⟨e,d,rfl,m,n⟩,λj u c=>?_⟩
 match j,c with
 | 0,c=>obtain rfl:=DG c;exact r
 | 1,c=>obtain rfl:=DG c;exact y
 | 2,c=>obtain rfl:=DG c;exact q
 | 3,c=>obtain rfl:=DG c;exact x
theorem UT {P:Nat->Prop}{w:World}{ns:List Stil.B8}(h:Em P w v ns):LA 6 (N9 P w) w v ns:=by
 obtain⟨a,cap,rfl,n,D⟩:=h;refine PS AY n λi hi=>?_
 obtain⟨b,o,m,_,_,d⟩:=D i hi;obtain⟨d,⟨l,A,y⟩,e,r,z⟩:=(LW _ _ _ _ _).1 d;obtain⟨C,F,⟨k,x,q⟩,f,E,t⟩:=(Rt _ _ _ _ _).1 d;refine⟨b,o,m,[AB ns[i].net.kind,AB ns[i].net.one.op,k,f,l,e],rfl,⟨k,f,l,e,rfl,q,t,y,z⟩,λj u c=>?_⟩
 match j,c with
 | 0,c=>obtain rfl:=DG c;exact C
 | 1,c=>obtain rfl:=DG c;exact F
 | 2,c=>obtain rfl:=DG c;exact x
 | 3,c=>obtain rfl:=DG c;exact E
 | 4,c=>obtain rfl:=DG c;exact A
 | 5,c=>obtain rfl:=DG c;exact r
def CX (B:Nat)(v:Value)(b:Nat):Prop:=B<b/\v.ownBlock≠some b
theorem BJ {P:Nat->Prop}{w W:World}(h:Ac P w W:=by(repeat (first | with_reducible exact Ac.refl _ _ | with_reducible assumption | with_reducible refine Ac.trans ?_ (Ac.set (by first | omega | (intro h;exact absurd rfl h.2) | (intro h;exact absurd h.1 (Bad _)) | (simp[CX];done) | (simp[CX];omega)) _) | with_reducible refine Ac.trans ?_ (Ac.of_below (Aa _ _))))):Ac P w W:=h
theorem Y7 {w:World}(h:w.grownBy w' v.ownBlock):Ac (CX B v) w w':=Ac.of_grown h λ_ a=>a.2
theorem Y6 {w:World}(h:v'.ownBlock=v.ownBlock\/v'.ownBlock=some w.heap.size):∀b,b<w.heap.size->CX B v b->CX B v' b:=by
 intro b c a;refine⟨a.1,?_⟩;rcases h with h | h
 ·rw[h];exact a.2
 ·rw[h]
  intro e;simp only[CZ] at e;omega
theorem Gi {P Q:Nat->Prop}{w:World}(h:Ac Q w w')(hl:∀b,b<w.heap.size->P b->Q b):Ac P w w':=⟨h.1,λb o c a=>h.2 b o (hl b a c) a⟩
theorem TM {w:World}{es:List Stil.Elem}{e:Stil.Elem}(h:RowOf 2 (Nw (CX B v) w) xs es)(j:Nw (CX B v) w cs e)(hl:cs.length=2)(hg:w.grownBy w' v.ownBlock)(i:v'.ownBlock=v.ownBlock\/v'.ownBlock=some w.heap.size):RowOf 2 (Nw (CX B v') w') (xs++cs) (es++[e]):=by
 have c:∀cs e,Nw (CX B v) w cs e->Nw (CX B v') w' cs e:=λcs e h=>by
  have f:Nw (λb=>CX B v b/\CX B v' b) w cs e:=h.mono λb d a=>⟨a,Y6 i b d a⟩
  exact(f.keep (Gi (Y7 (B:=B) hg) λb _ a=>a.1)).mono λb _ a=>a.2
 exact(h.imp λcs e _=>c cs e).append (RowOf.one hl (c _ _ j))
theorem ti {w:World}{ns:List Stil.B9}{n:Stil.B9}(h:RowOf 4 (Zn (CX B v) w) xs ns)(j:Zn (CX B v) w cs n)(hl:cs.length=4)(hg:w.grownBy w' v.ownBlock)(i:v'.ownBlock=v.ownBlock\/v'.ownBlock=some w.heap.size):RowOf 4 (Zn (CX B v') w') (xs++cs) (ns++[n]):=by
 have c:∀cs e,Zn (CX B v) w cs e->Zn (CX B v') w' cs e:=λcs e h=>by
  have f:Zn (λb=>CX B v b/\CX B v' b) w cs e:=h.mono λb d a=>⟨a,Y6 i b d a⟩
  exact(f.keep (Gi (Y7 (B:=B) hg) λb _ a=>a.1)).mono λb _ a=>a.2
 exact(h.imp λcs e _=>c cs e).append (RowOf.one hl (c _ _ j))
theorem VE {w:World}{ns:List Stil.B8}{n:Stil.B8}(h:RowOf 6 (N9 (CX B v) w) xs ns)(j:N9 (CX B v) w cs n)(hl:cs.length=6)(hg:w.grownBy w' v.ownBlock)(i:v'.ownBlock=v.ownBlock\/v'.ownBlock=some w.heap.size):RowOf 6 (N9 (CX B v') w') (xs++cs) (ns++[n]):=by
 have c:∀cs e,N9 (CX B v) w cs e->N9 (CX B v') w' cs e:=λcs e h=>by
  have f:N9 (λb=>CX B v b/\CX B v' b) w cs e:=h.mono λb d a=>⟨a,Y6 i b d a⟩
  exact(f.keep (Gi (Y7 (B:=B) hg) λb _ a=>a.1)).mono λb _ a=>a.2
 exact(h.imp λcs e _=>c cs e).append (RowOf.one hl (c _ _ j))
theorem Ew {w:World}{a:List Stil.CC}(h:Lm w g v a):Bi (λb=>g<b) w v a:=h
theorem Avu {w:World}{a:List Stil.CC}(h:Bi (λb=>g<b) w v a):Lm w g v a:=h
theorem Tc (P:Nat->Prop)(w:World):Bi P w AG []:=⟨none,0,rfl,⟨CG _,λ_=>rfl⟩,λi hi=>by simp at hi⟩
theorem Jr (P:Nat->Prop)(w:World):Dp P w AG []:=⟨none,0,rfl,⟨CG _,λ_=>rfl⟩,λi hi=>by simp at hi⟩
theorem Yj (P:Nat->Prop)(w:World):Dq P w AG []:=⟨none,0,rfl,⟨CG _,λ_=>rfl⟩,λi hi=>by simp at hi⟩
theorem Qr (P:Nat->Prop)(w:World):Em P w AG []:=⟨none,0,rfl,⟨CG _,λ_=>rfl⟩,λi hi=>by simp at hi⟩
def X0 (e:Stil.Elem):Prop:=(-1000000<=e.op/\e.op<=1000000)/\(∀d∈e.args,Small d)/\e.args.length<=100000
def Kw:Stil.B9->Prop
 | ⟨k,e,kids⟩=>(-1000000<=k/\k<=1000000)/\X0 e/\∀p∈kids.map Kw,p
theorem Qv (k:Int)(e:Stil.Elem)(kids:List Stil.B9):Kw ⟨k,e,kids⟩↔(-1000000<=k/\k<=1000000)/\X0 e/\∀x∈kids,Kw x:=by rw[Kw,Stil.all_map]
def Jj:Stil.B8->Prop
 | ⟨n,a,kids⟩=>Kw n/\(∀c∈a,X0 c)/\∀p∈kids.map Jj,p
theorem G5 (n:Stil.B9)(a:List Stil.Elem)(kids:List Stil.B8):Jj ⟨n,a,kids⟩↔Kw n/\(∀c∈a,X0 c)/\∀x∈kids,Jj x:=by rw[Jj,Stil.all_map]
theorem X0.wf {e:Stil.Elem}(h:X0 e):e.wf:=⟨⟨by have:=h.1.1;omega,by have:=h.1.2;omega⟩,by have:=h.2.2;omega,λd hd=>(h.2.1 d hd).fits⟩
theorem Kw.wf (n:Stil.B9):Kw n->G9 n<=1000000->IE n:=by
 induction n using Gf with
 | h k e kids d=>
  intro h f;obtain⟨i,c,b⟩:=(Qv _ _ _).1 h;rw[E5] at f;refine(ZO _ _ _).2 ⟨⟨AQ,AQ⟩,c.wf,AQ,λx a=>d x a (b x a) ?_⟩;have:=D9 G9 kids x a
  omega
theorem Jj.wf (n:Stil.B8):Jj n->Gs n<=1000000->J0 n:=by
 induction n using Gl with
 | h n a kids j=>
  intro h k;obtain⟨d,i,e⟩:=(G5 _ _ _).1 h;rw[Fv] at k;have l:Gx a=a.length+(a.map Pv).sum:=rfl;refine(Z2 _ _ _).2 ⟨Kw.wf n d AQ,AQ,λc f=>(i c f).wf,AQ,λx b=>j x b (e x b) ?_⟩;have:=D9 Gs kids x b
  omega
