import Derived.Test.YtmnnkedjoecehaaGreatDoorFRe
set_option linter.defProp false
namespace Go.Proofs.YtmnnkedjoecehaaGreatDoor
open Stil Go.RowKit Go.Sort Go.BigFrame
variable {B base g o s:Nat}{cs xs ys:List Value}{v v':Value}{w':World}{α:Type}
def Ac (P:Nat->Prop)(w w':World):Prop:=w.heap.size<=w'.heap.size/\∀b o,P b->b<w.heap.size->w'.cell? ⟨b,o,none⟩=w.cell? ⟨b,o,none⟩
def Ac.refl (P:Nat->Prop)(w:World):Ac P w w:=⟨CG _,λ_ _ _ _=>rfl⟩
theorem Ac.trans {P:Nat->Prop}{a b c:World}(h1:Ac P a b)(d:Ac P b c):Ac P a c:=
 ⟨CM h1.1 d.1,λx o e f=>(d.2 x o e (CB f h1.1)).trans (h1.2 x o e f)⟩
theorem Ac.of_below {P:Nat->Prop}{w:World}(h:AO w w'):Ac P w w':=⟨h.size,λb o _ a=>h.cell (p:=(AK b o)) a⟩
theorem Ac.of_grown {P:Nat->Prop}{w:World}{r:Option Nat}(h:w.grownBy w' r)(hr:∀b,P b->r≠some b):Ac P w w':=⟨h.size,λb o a c=>by
 unfold World.cell?
 rw[h.block b c (λe=>hr b a e.symm)]⟩
theorem Ac.set {P:Nat->Prop}{w:World}{b:Nat}(a:¬P b)(v:Value):Ac P w (w.setCell ⟨b,o,none⟩ v):=⟨((Below.refl 0 w).setCell (DZ _) v).size,λx p c _=>by
 have f:¬x=b:=λe=>a (e ▸ c)
 have d:¬b=x:=λe=>a (e ▸ c)
 simp[go_sem]⟩
def EV (a:Option Addr)(n cap:Nat):Prop:=n<=cap/\(a=none->cap=0)
def Bj (P:Nat->Prop)(w:World)(v:Value)(c:List Stil.CC):Prop:=∃a cap,v=AE a c.length cap/\EV a c.length cap/\∀i (h:i<c.length),∃b o,a=some ⟨b,o,none⟩/\P b/\b<w.heap.size/\Ju w b (o+i*3) c[i]
def Ju.keepIn {P:Nat->Prop}{w:World}{b:Nat}{d:Stil.CC}(h:Ju w b o d)(c:Ac P w w')(hl:P b)(a:b<w.heap.size):Ju w' b o d:=by
 obtain⟨i,f,e⟩:=h;exact⟨by rw[c.2 _ _ hl a];exact i,by rw[c.2 _ _ hl a];exact f,by rw[c.2 _ _ hl a];exact e⟩
theorem Bj.keep {P:Nat->Prop}{w:World}{c:List Stil.CC}(h:Bj P w v c)(e:Ac P w w'):Bj P w' v c:=by
 obtain⟨a,cap,j,l,m⟩:=h;refine⟨a,cap,j,l,λi hi=>?_⟩;obtain⟨b,o,k,f,d,hd⟩:=m i hi;exact⟨b,o,k,f,CB d e.1,hd.keepIn e f d⟩
theorem Bj.mono {P Q:Nat->Prop}{w:World}{c:List Stil.CC}(h:Bj Q w v c)(hl:∀b,b<w.heap.size->Q b->P b):Bj P w v c:=by
 obtain⟨a,cap,e,j,k⟩:=h;refine⟨a,cap,e,j,λi hi=>?_⟩;obtain⟨b,o,l,f,d,hd⟩:=k i hi;exact⟨b,o,l,hl _ d f,d,hd⟩
theorem Bj.at {P:Nat->Prop}{w:World}{c:List Stil.CC}(h:Bj P w v c):Dj w v c:=by
 obtain⟨a,cap,d,l,j⟩:=h;refine⟨a,cap,d,λi hi=>?_⟩;obtain⟨b,o,f,k,e,hd⟩:=j i hi;exact⟨b,o,f,e,hd⟩
def Tf (P:Nat->Prop)(w:World):Nat->Nat->Stil.B8->Prop
 | b,o,⟨k,e,kids⟩=>w.cell? ⟨b,o,none⟩=some (AB k)/\w.cell? ⟨b,o+1,none⟩=some (AB e.op)/\
   (∃d,w.cell? ⟨b,o+2,none⟩=some d/\Bj P w d e.args)/\
   ∃a cap,w.cell? ⟨b,o+3,none⟩=some (AE a kids.length cap)/\EV a kids.length cap/\∀i (h:i<kids.length),∃c f,a=some ⟨c,f,none⟩/\P c/\c<w.heap.size/\
    (have:=M4 (CJ h);Tf P w c (f+i*4) kids[i])
def MB (P:Nat->Prop)(w:World)(b o:Nat)(k:Int)(e:Stil.Elem)(kids:List Stil.B8):Tf P w b o ⟨k,e,kids⟩=(w.cell? (AK b o)=some (AB k)/\w.cell? (AK b (o+1))=some (AB e.op)/\
   (∃d,w.cell? (AK b (o+2))=some d/\Bj P w d e.args)/\
   ∃a cap,w.cell? (AK b (o+3))=some (AE a kids.length cap)/\EV a kids.length cap/\∀i (h:i<kids.length),∃c f,a=some (AK c f)/\P c/\c<w.heap.size/\Tf P w c (f+i*4) kids[i]):=by rw[Tf]
def Dt (P:Nat->Prop)(w:World)(v:Value)(ns:List Stil.B8):Prop:=∃a cap,v=AE a ns.length cap/\EV a ns.length cap/\∀i (h:i<ns.length),∃b o,a=some ⟨b,o,none⟩/\P b/\b<w.heap.size/\Tf P w b (o+i*4) ns[i]
def Sj (P:Nat->Prop)(w:World)(b o:Nat)(n:Stil.B8):Tf P w b o n↔(w.cell? (AK b o)=some (AB n.kind)/\w.cell? (AK b (o+1))=some (AB n.one.op)/\
   (∃m,w.cell? (AK b (o+2))=some m/\Bj P w m n.one.args)/\∃l,w.cell? (AK b (o+3))=some l/\Dt P w l n.kids):=by
 obtain⟨k,e,kids⟩:=n;rw[MB];constructor
 ·rintro⟨h,c,i,a,cap,j,f,d⟩;exact⟨h,c,i,_,j,a,cap,rfl,f,d⟩
 ·rintro⟨h,c,i,_,j,a,cap,rfl,f,d⟩;exact⟨h,c,i,a,cap,j,f,d⟩
def zw0 {p:Prop}(h:p:=by
 obtain⟨b',o',ha,hlo,hl',hn⟩:=h6 i hi
 exact⟨b',o',ha,hlo,CB hl' hk.1,ih _ (CJ hi) b' _ hn hlo hl'⟩):p:=h
def Tf.keep {P:Nat->Prop}{w:World}(hk:Ac P w w'):∀(n:Stil.B8) (b o:Nat),Tf P w b o n->P b->b<w.heap.size->Tf P w' b o n:=by
 intro n;induction n using Fp with
 | h k e kids ih=>
  intro b o h d c;rw[MB] at h ⊢;obtain⟨q,f,⟨l,r,t⟩,a,cap,j,m,h6⟩:=h;refine⟨?_,?_,⟨l,?_,t.keep hk⟩,a,cap,?_,m,λi hi=>?_⟩
  ·rw[hk.2 _ _ d c];exact q
  ·rw[hk.2 _ _ d c];exact f
  ·rw[hk.2 _ _ d c];exact r
  ·rw[hk.2 _ _ d c];exact j
  ·exact zw0
theorem Dt.keep {P:Nat->Prop}{w:World}{ns:List Stil.B8}(h:Dt P w v ns)(d:Ac P w w'):Dt P w' v ns:=by
 obtain⟨a,cap,f,k,l⟩:=h;refine⟨a,cap,f,k,λi hi=>?_⟩;obtain⟨b,o,j,e,c,hd⟩:=l i hi;exact⟨b,o,j,e,CB c d.1,Tf.keep d _ _ _ hd e c⟩
def Tf.mono {P Q:Nat->Prop}{w:World}(hl:∀b,b<w.heap.size->Q b->P b):∀(n:Stil.B8) (b o:Nat),Tf Q w b o n->Tf P w b o n:=by
 intro n;induction n using Fp with
 | h k e kids x=>
  intro b o h;rw[MB] at h ⊢;obtain⟨r,j,⟨m,t,y⟩,a,cap,l,q,p⟩:=h;refine⟨r,j,⟨m,t,y.mono hl⟩,a,cap,l,q,λi hi=>?_⟩;obtain⟨d,A,u,z,c,f⟩:=p i hi;exact⟨d,A,u,hl _ c z,c,x _ (CJ hi) d _ f⟩
theorem Dt.mono {P Q:Nat->Prop}{w:World}{ns:List Stil.B8}(h:Dt Q w v ns)(hl:∀b,b<w.heap.size->Q b->P b):Dt P w v ns:=by
 obtain⟨a,cap,d,f,j⟩:=h;refine⟨a,cap,d,f,λi hi=>?_⟩;obtain⟨b,o,k,e,c,hd⟩:=j i hi;exact⟨b,o,k,hl _ c e,c,Tf.mono hl _ _ _ hd⟩
def Tf.at {P:Nat->Prop}{w:World}:∀(n:Stil.B8) (b o:Nat),Tf P w b o n->Uz w b o n:=by
 intro n;induction n using Fp with
 | h k e kids u=>
  intro b o h;rw[MB] at h;rw[MD];obtain⟨q,f,⟨l,r,x⟩,a,cap,j,z,m⟩:=h;refine⟨q,f,⟨l,r,x.at⟩,a,cap,j,λi hi=>?_⟩;obtain⟨c,y,t,A,p,d⟩:=m i hi;exact⟨c,y,t,p,u _ (CJ hi) c _ d⟩
theorem Dt.at {P:Nat->Prop}{w:World}{ns:List Stil.B8}(h:Dt P w v ns):Gg w v ns:=by
 obtain⟨a,cap,c,k,f⟩:=h;refine⟨a,cap,c,λi hi=>?_⟩;obtain⟨b,o,e,j,d,hd⟩:=f i hi;exact⟨b,o,e,d,Tf.at _ _ _ hd⟩
def M1 (P:Nat->Prop)(w:World)(b o:Nat)(e:Stil.Elem):Prop:=w.cell? ⟨b,o,none⟩=some (AB e.op)/\∃a,w.cell? ⟨b,o+1,none⟩=some a/\Bj P w a e.args
def Dn (P:Nat->Prop)(w:World)(v:Value)(es:List Stil.Elem):Prop:=∃a cap,v=AE a es.length cap/\EV a es.length cap/\∀i (h:i<es.length),∃b o,a=some ⟨b,o,none⟩/\P b/\b<w.heap.size/\M1 P w b (o+i*2) es[i]
def M1.keep {P:Nat->Prop}{w:World}{b:Nat}{e:Stil.Elem}(h:M1 P w b o e)(a:Ac P w w')(hl:P b)(c:b<w.heap.size):M1 P w' b o e:=by
 obtain⟨j,i,f,d⟩:=h;exact⟨by rw[a.2 _ _ hl c];exact j,i,by rw[a.2 _ _ hl c];exact f,d.keep a⟩
theorem Dn.keep {P:Nat->Prop}{w:World}{es:List Stil.Elem}(h:Dn P w v es)(d:Ac P w w'):Dn P w' v es:=by
 obtain⟨a,cap,f,k,l⟩:=h;refine⟨a,cap,f,k,λi hi=>?_⟩;obtain⟨b,o,j,e,c,hd⟩:=l i hi;exact⟨b,o,j,e,CB c d.1,hd.keep d e c⟩
theorem Dn.mono {P Q:Nat->Prop}{w:World}{es:List Stil.Elem}(h:Dn Q w v es)(hl:∀b,b<w.heap.size->Q b->P b):Dn P w v es:=by
 obtain⟨a,cap,d,k,m⟩:=h;refine⟨a,cap,d,k,λi hi=>?_⟩;obtain⟨b,o,p,j,c,l,f,e,n⟩:=m i hi;exact⟨b,o,p,hl _ c j,c,l,f,e,n.mono hl⟩
theorem Dn.at {P:Nat->Prop}{w:World}{es:List Stil.Elem}(h:Dn P w v es):Ir w v es:=by
 obtain⟨a,cap,c,p,k⟩:=h;refine⟨a,cap,c,λi hi=>?_⟩;obtain⟨b,o,m,n,d,j,f,e,l⟩:=k i hi;exact⟨b,o,m,d,j,f,e,l.at⟩
def X3 (P:Nat->Prop)(w:World):Nat->Nat->Stil.B9->Prop
 | b,o,⟨n,f,kids⟩=>Tf P w b o n/\(∃d,w.cell? ⟨b,o+4,none⟩=some d/\Dn P w d f)/\
   ∃a cap,w.cell? ⟨b,o+5,none⟩=some (AE a kids.length cap)/\EV a kids.length cap/\∀i (h:i<kids.length),∃c e,a=some ⟨c,e,none⟩/\P c/\c<w.heap.size/\
    (have:=M4 (CJ h);X3 P w c (e+i*6) kids[i])
def ME (P:Nat->Prop)(w:World)(b o:Nat)(n:Stil.B8)(d:List Stil.Elem)(kids:List Stil.B9):X3 P w b o ⟨n,d,kids⟩=(Tf P w b o n/\(∃e,w.cell? (AK b (o+4))=some e/\Dn P w e d)/\
   ∃a cap,w.cell? (AK b (o+5))=some (AE a kids.length cap)/\EV a kids.length cap/\∀i (h:i<kids.length),∃c f,a=some (AK c f)/\P c/\c<w.heap.size/\X3 P w c (f+i*6) kids[i]):=by rw[X3]
def Fe (P:Nat->Prop)(w:World)(v:Value)(l:List Stil.B9):Prop:=∃a cap,v=AE a l.length cap/\EV a l.length cap/\∀i (h:i<l.length),∃b o,a=some ⟨b,o,none⟩/\P b/\b<w.heap.size/\X3 P w b (o+i*6) l[i]
def Lx (P:Nat->Prop)(w:World)(b o:Nat)(n:Stil.B9):X3 P w b o n↔(Tf P w b o n.net/\(∃l,w.cell? (AK b (o+4))=some l/\Dn P w l n.coils)/\∃j,w.cell? (AK b (o+5))=some j/\Fe P w j n.kids):=by
 obtain⟨k,e,kids⟩:=n;rw[ME];constructor
 ·rintro⟨f,h,a,cap,i,d,c⟩;exact⟨f,h,_,i,a,cap,rfl,d,c⟩
 ·rintro⟨f,h,_,i,a,cap,rfl,d,c⟩;exact⟨f,h,a,cap,i,d,c⟩
def X3.keep {P:Nat->Prop}{w:World}(hk:Ac P w w'):∀(n:Stil.B9) (b o:Nat),X3 P w b o n->P b->b<w.heap.size->X3 P w' b o n:=by
 intro n;induction n using Fq with
 | h n q kids ih=>
  intro b o h d c;rw[ME] at h ⊢;obtain⟨j,⟨l,k,m⟩,a,cap,e,f,h6⟩:=h;refine⟨Tf.keep hk _ _ _ j d c,⟨l,?_,m.keep hk⟩,a,cap,?_,f,λi hi=>?_⟩
  ·rw[hk.2 _ _ d c];exact k
  ·rw[hk.2 _ _ d c];exact e
  ·exact zw0
theorem Fe.keep {P:Nat->Prop}{w:World}{ns:List Stil.B9}(h:Fe P w v ns)(d:Ac P w w'):Fe P w' v ns:=by
 obtain⟨a,cap,f,k,l⟩:=h;refine⟨a,cap,f,k,λi hi=>?_⟩;obtain⟨b,o,j,e,c,hd⟩:=l i hi;exact⟨b,o,j,e,CB c d.1,X3.keep d _ _ _ hd e c⟩
def X3.mono {P Q:Nat->Prop}{w:World}(hl:∀b,b<w.heap.size->Q b->P b):∀(n:Stil.B9) (b o:Nat),X3 Q w b o n->X3 P w b o n:=by
 intro n;induction n using Fq with
 | h n y kids r=>
  intro b o h;rw[ME] at h ⊢;obtain⟨l,⟨p,m,t⟩,a,cap,f,k,j⟩:=h;refine⟨Tf.mono hl _ _ _ l,⟨p,m,t.mono hl⟩,a,cap,f,k,λi hi=>?_⟩;obtain⟨d,x,q,u,c,e⟩:=j i hi;exact⟨d,x,q,hl _ c u,c,r _ (CJ hi) d _ e⟩
theorem Fe.mono {P Q:Nat->Prop}{w:World}{ns:List Stil.B9}(h:Fe Q w v ns)(hl:∀b,b<w.heap.size->Q b->P b):Fe P w v ns:=by
 obtain⟨a,cap,d,f,j⟩:=h;refine⟨a,cap,d,f,λi hi=>?_⟩;obtain⟨b,o,k,e,c,hd⟩:=j i hi;exact⟨b,o,k,hl _ c e,c,X3.mono hl _ _ _ hd⟩
def X3.at {P:Nat->Prop}{w:World}:∀(n:Stil.B9) (b o:Nat),X3 P w b o n->X4 w b o n:=by
 intro n;induction n using Fq with
 | h n y kids q=>
  intro b o h;rw[ME] at h;rw[QH];obtain⟨k,⟨m,l,r⟩,a,cap,e,u,f⟩:=h;refine⟨Tf.at _ _ _ k,⟨m,l,r.at⟩,a,cap,e,λi hi=>?_⟩;obtain⟨c,t,p,x,j,d⟩:=f i hi;exact⟨c,t,p,j,q _ (CJ hi) c _ d⟩
theorem Fe.at {P:Nat->Prop}{w:World}{ns:List Stil.B9}(h:Fe P w v ns):E8 w v ns:=by
 obtain⟨a,cap,c,k,f⟩:=h;refine⟨a,cap,c,λi hi=>?_⟩;obtain⟨b,o,e,j,d,hd⟩:=f i hi;exact⟨b,o,e,d,X3.at _ _ _ hd⟩
def RowOf {α:Type}(s:Nat)(R:List Value->α->Prop)(xs:List Value)(a:List α):Prop:=xs.length=a.length*s/\∀i (h:i<a.length),R ((xs.drop (i*s)).take s) a[i]
def RowOf.nil (s:Nat)(R:List Value->α->Prop):RowOf s R [] []:=⟨AU,λi h=>by simp at h⟩
def RowOf.imp {R Q:List Value->α->Prop}{b:List α}(h:RowOf s R xs b)(c:∀cs a,a∈b->R cs a->Q cs a):RowOf s Q xs b:=
 ⟨h.1,λi hi=>c _ _ (CJ hi) (h.2 i hi)⟩
theorem RowOf.append {R:List Value->α->Prop}{a c:List α}(h:RowOf s R xs a)(k:RowOf s R ys c):RowOf s R (xs++ys) (a++c):=by
 have d:=h.1;have j:=k.1;refine⟨by simp[d,j,Nat.add_mul],λi hi=>?_⟩;by_cases b:i<a.length
 ·have l:i*s+s<=a.length*s:=by rw[<-G4];exact E6 s b
  rw[NC b,List.drop_append_of_le_length AQ,List.take_append_of_le_length Ax];exact h.2 i b
 ·have f:i - a.length<c.length:=by simp at hi;omega
  have e:i*s=xs.length+(i - a.length)*s:=by rw[d,<-Nat.add_mul];congr 1;omega
  rw[List.getElem_append_right AQ,e,List.drop_append];simp only[Nat.le_add_right,RR,C5,Nat.add_sub_cancel_left];exact k.2 _ f
theorem RowOf.one {R:List Value->α->Prop}{a:α}(hl:cs.length=s)(h:R cs a):RowOf s R cs [a]:=
 ⟨by simp[hl],λi hi=>by
  have:i=0:=by simp at hi;omega
  subst this
  simpa[<-hl] using h⟩
theorem RowOf.set {R:List Value->α->Prop}{b:List α}{k:Nat}{a:α}(h:RowOf s R xs b)(p:k<b.length)(hl:ys.length=xs.length)(m:R ((ys.drop (k*s)).take s) a)
  (n:∀j,j<k*s\/k*s+s<=j->ys[j]?=xs[j]?):RowOf s R ys (b.set k a):=by
 refine⟨by simp[hl,h.1],λi hi=>?_⟩;by_cases e:i=k
 ·subst e
  rw[List.getElem_set_self];exact m
 ·rw[List.getElem_set_ne (λx=>e x.symm)]
  have f:i<b.length:=by simpa using hi
  have l:=h.2 i f;have:(ys.drop (i*s)).take s=(xs.drop (i*s)).take s:=by
   apply LA;intro j;simp only[G0,G1];by_cases c:j<s
   ·rw[if_pos c,if_pos c]
    apply n;rcases Nat.lt_or_gt_of_ne e with d | d
    ·left
     have:i*s+s<=k*s:=by rw[<-G4];exact E6 s d
     omega
    ·right
     have:k*s+s<=i*s:=by rw[<-G4];exact E6 s d
     omega
   ·rw[if_neg c,if_neg c]
  rw[this];exact l
def N8 (P:Nat->Prop)(w:World)(cs:List Value)(e:Stil.Elem):Prop:=∃a,cs=[AB e.op,a]/\Bj P w a e.args
def Z8 (P:Nat->Prop)(w:World)(cs:List Value)(n:Stil.B8):Prop:=∃b a,cs=[AB n.kind,AB n.one.op,b,a]/\Bj P w b n.one.args/\Dt P w a n.kids
def Qb (P:Nat->Prop)(w:World)(cs:List Value)(a:Stil.B9):Prop:=∃e c d b,cs=[AB a.net.kind,AB a.net.one.op,e,c,d,b]/\Bj P w e a.net.one.args/\Dt P w c a.net.kids/\Dn P w d a.coils/\Fe P w b a.kids
def N8.keep {P:Nat->Prop}{w:World}{e:Stil.Elem}(h:N8 P w cs e)(c:Ac P w w'):N8 P w' cs e:=by
 obtain⟨b,d,a⟩:=h;exact⟨b,d,a.keep c⟩
def Z8.keep {P:Nat->Prop}{w:World}{n:Stil.B8}(h:Z8 P w cs n)(a:Ac P w w'):Z8 P w' cs n:=by
 obtain⟨e,c,f,d,b⟩:=h;exact⟨e,c,f,d.keep a,b.keep a⟩
def Qb.keep {P:Nat->Prop}{w:World}{n:Stil.B9}(h:Qb P w cs n)(a:Ac P w w'):Qb P w' cs n:=by
 obtain⟨i,d,e,c,l,f,b,k,j⟩:=h;exact⟨i,d,e,c,l,f.keep a,b.keep a,k.keep a,j.keep a⟩
def N8.mono {P Q:Nat->Prop}{w:World}{e:Stil.Elem}(h:N8 Q w cs e)(hl:∀b,b<w.heap.size->Q b->P b):N8 P w cs e:=by
 obtain⟨c,d,a⟩:=h;exact⟨c,d,a.mono hl⟩
def Z8.mono {P Q:Nat->Prop}{w:World}{n:Stil.B8}(h:Z8 Q w cs n)(hl:∀b,b<w.heap.size->Q b->P b):Z8 P w cs n:=by
 obtain⟨e,c,f,d,a⟩:=h;exact⟨e,c,f,d.mono hl,a.mono hl⟩
def Qb.mono {P Q:Nat->Prop}{w:World}{n:Stil.B9}(h:Qb Q w cs n)(hl:∀b,b<w.heap.size->Q b->P b):Qb P w cs n:=by
 obtain⟨i,d,e,c,l,f,a,k,j⟩:=h;exact⟨i,d,e,c,l,f.mono hl,a.mono hl,k.mono hl,j.mono hl⟩
theorem Hq {w:World}{n:Nat}{e:TypeId}(h:w.ownsRow base e s v n xs):∃a cap,v=AE a n cap/\EV a n cap/\(∀b o sp,a=some ⟨b,o,sp⟩->o=0/\sp=none/\v.ownBlock=some b/\base<=b/\b<w.heap.size/\∀j u,xs[j]?=some u->w.cell? (AK b j)=some u)/\(0<n->a≠none):=by
 rcases h.2 with⟨q,m⟩ | ⟨g,cap,cur,d,l,x,r,y⟩
 ·have k:=m
  subst k;exact⟨none,0,q,⟨CG _,λ_=>rfl⟩,λb o sp c=>(by cases c),λt=>absurd t AQ⟩
 ·refine⟨_,cap,d,⟨r,λc=>(by cases c)⟩,λb o sp c=>?_,λ_ c=>(by cases c)⟩
  simp only[C0,Addr.mk.injEq] at c;obtain⟨rfl,rfl,rfl⟩:=c;have i:v.ownBlock=some g:=by rw[d];rfl
  refine⟨rfl,rfl,i,l,(h.lt g i).2,λj u f=>?_⟩;have z:=(List.getElem?_eq_some_iff.1 f).1;subst d;have:=h.cellAt j (by have:=h.1;omega)
  rw[this];exact f
theorem J0 {R:List Value->α->Prop}{b:List α}(_h:RowOf s R xs b){i:Nat}(_hi:i<b.length)(c:(xs.drop (i*s)).take s=cs):∀j u,cs[j]?=some u->xs[i*s+j]?=some u:=by
 intro j u a;rw[<-c] at a;simp only[G0,G1] at a;split at a
 ·exact a
 ·cases a
theorem Jr {P:Nat->Prop}{w:World}{es:List Stil.Elem}(h:w.ownsRow base 46 2 v es.length xs)(hr:RowOf 2 (N8 P w) xs es)(r:∀b,v.ownBlock=some b->P b):Dn P w v es:=by
 obtain⟨a,cap,n,l,m,f⟩:=Hq h;refine⟨a,cap,n,l,λi hi=>?_⟩;obtain⟨⟨b,o,sp⟩,c⟩:∃ad,a=some ad:=by
  cases a with
  | none=>exact absurd rfl (f AQ)
  | some ad=>exact⟨ad,rfl⟩
 obtain⟨rfl,rfl,q,x,j,d⟩:=m b o sp c;obtain⟨k,t,u⟩:=hr.2 i hi;have e:=J0 hr hi t;refine⟨b,0,c,r b q,j,?_,k,?_,u⟩
 ·rw[CV];exact d _ _ (e 0 _ rfl)
 ·rw[CV];exact d _ _ (e 1 _ rfl)
theorem P5 {P:Nat->Prop}{w:World}{ns:List Stil.B8}(h:w.ownsRow base 59 4 v ns.length xs)(hr:RowOf 4 (Z8 P w) xs ns)(t:∀b,v.ownBlock=some b->P b):Dt P w v ns:=by
 obtain⟨a,cap,q,m,n,f⟩:=Hq h;refine⟨a,cap,q,m,λi hi=>?_⟩;obtain⟨⟨b,o,sp⟩,e⟩:∃ad,a=some ad:=by
  cases a with
  | none=>exact absurd rfl (f AQ)
  | some ad=>exact⟨ad,rfl⟩
 obtain⟨rfl,rfl,r,z,k,c⟩:=n b o sp e;obtain⟨l,j,x,y,u⟩:=hr.2 i hi;have d:=J0 hr hi x;refine⟨b,0,e,t b r,k,(Sj _ _ _ _ _).2 ⟨?_,?_,⟨l,?_,y⟩,j,?_,u⟩⟩
 ·rw[CV];exact c _ _ (d 0 _ rfl)
 ·rw[CV];exact c _ _ (d 1 _ rfl)
 ·rw[CV];exact c _ _ (d 2 _ rfl)
 ·rw[CV];exact c _ _ (d 3 _ rfl)
theorem Gi {P:Nat->Prop}{w:World}{ns:List Stil.B9}(h:w.ownsRow base 62 6 v ns.length xs)(hr:RowOf 6 (Qb P w) xs ns)(z:∀b,v.ownBlock=some b->P b):Fe P w v ns:=by
 obtain⟨a,cap,u,m,r,f⟩:=Hq h;refine⟨a,cap,u,m,λi hi=>?_⟩;obtain⟨⟨b,o,sp⟩,e⟩:∃ad,a=some ad:=by
  cases a with
  | none=>exact absurd rfl (f AQ)
  | some ad=>exact⟨ad,rfl⟩
 obtain⟨rfl,rfl,x,E,k,c⟩:=r b o sp e;obtain⟨l,n,q,j,C,D,A,t,y⟩:=hr.2 i hi;have d:=J0 hr hi C;refine⟨b,0,e,z b x,k,(Lx _ _ _ _ _).2 ⟨(Sj _ _ _ _ _).2 ⟨?_,?_,⟨l,?_,D⟩,n,?_,A⟩,⟨q,?_,t⟩,j,?_,y⟩⟩
 ·rw[CV];exact c _ _ (d 0 _ rfl)
 ·rw[CV];exact c _ _ (d 1 _ rfl)
 ·rw[CV];exact c _ _ (d 2 _ rfl)
 ·rw[CV];exact c _ _ (d 3 _ rfl)
 ·rw[CV];exact c _ _ (d 4 _ rfl)
 ·rw[CV];exact c _ _ (d 5 _ rfl)
theorem Ayh {R:List Value->α->Prop}{a:List α}(f:Nat->Value)(h:∀i (hi:i<a.length),R ((List.range s).map λj=>f (i*s+j)) a[i]):RowOf s R ((List.range (a.length*s)).map f) a:=by
 refine⟨AU,λi hi=>?_⟩;have e:(((List.range (a.length*s)).map f).drop (i*s)).take s=(List.range s).map λj=>f (i*s+j):=by
  have c:i*s+s<=a.length*s:=by rw[<-G4];exact E6 s hi
  apply LA;intro j;simp only[G0,G1,JS];by_cases b:j<s
  ·rw[if_pos b,RU AQ,RU b];rfl
  ·rw[if_neg b,KF Ax];rfl
 rw[e];exact h i hi
def LJ {α:Type}(s:Nat)(R:List Value->α->Prop)(w:World)(v:Value)(b:List α):Prop:=∃a cap,v=AE a b.length cap/\EV a b.length cap/\∃xs,RowOf s R xs b/\∀ad,a=some ad->∀j u,xs[j]?=some u->w.cell? (ad.add j)=some u
theorem PW {R:List Value->α->Prop}{w:World}{a:Option Addr}{cap:Nat}{d:List α}(z:0<s)(r:EV a d.length cap)(h:∀i (hi:i<d.length),∃b o,a=some (AK b o)/\∃cs:List Value,cs.length=s/\R cs d[i]/\∀j u,cs[j]?=some u->w.cell? (AK b (o+i*s+j))=some u):LJ s R w (AE a d.length cap) d:=by
 refine⟨a,cap,rfl,r,?_⟩;by_cases k:d=[]
 ·subst k
  exact⟨[],RowOf.nil _ _,λad _ j u c=>by simp at c⟩
 ·obtain⟨b,o,rfl,_⟩:=h 0 (by cases d with | nil=>exact absurd rfl k | cons _ _=>simp)
  have q:∀i (hi:i<d.length),∃cs:List Value,cs.length=s/\R cs d[i]/\∀j u,cs[j]?=some u->w.cell? (AK b (o+i*s+j))=some u:=by
   intro i hi;obtain⟨A,C,e,t⟩:=h i hi;simp only[C0,Addr.mk.injEq,FG] at e;obtain⟨rfl,rfl⟩:=e;exact t
  refine⟨_,Ayh (λj=>(w.cell? (AK b (o+j))).getD (AB 0)) (λi hi=>?_),λad x j u c=>?_⟩
  ·obtain⟨cs,m,l,f⟩:=q i hi
   have e:((List.range s).map λj=>(w.cell? (AK b (o+(i*s+j)))).getD (AB 0))=cs:=by
    apply LA;intro j;by_cases c:j<s
    ·rw[JS,RU c,DW AQ]
     simp only[IX,C0];rw[<-Nat.add_assoc,f j cs[j] (DW AQ)];rfl
    ·rw[KF Ax,KF AQ]
   rw[e];exact l
  ·cases x
   rw[JS] at c;have n:j<d.length*s:=by
    apply Classical.byContradiction;intro D;rw[KF Ax] at c;cases c
   rw[RU n] at c;simp only[IX,C0] at c;have hi:=Nat.div_lt_of_lt_mul (by rw[Nat.mul_comm];exact n);obtain⟨cs,m,l,f⟩:=q (j / s) hi;have y:j % s<cs.length:=by rw[m];exact Nat.mod_lt _ z
   have:=f (j % s) cs[j % s] (DW y)
   have e:o+j / s*s+j % s=o+j:=by have:=Nat.div_add_mod j s;rw[Nat.mul_comm] at this;omega
   rw[e] at this;rw[this] at c;rw[Addr.add_lit,this,<-c];rfl
theorem sE {P:Nat->Prop}{w:World}{es:List Stil.Elem}(h:Dn P w v es):LJ 2 (N8 P w) w v es:=by
 obtain⟨a,cap,rfl,f,l⟩:=h;refine PW AY f λi hi=>?_
 obtain⟨b,o,n,_,_,k,d,e,m⟩:=l i hi;refine⟨b,o,n,[AB es[i].op,d],rfl,⟨d,rfl,m⟩,λj u c=>?_⟩
 match j,c with
 | 0,c=>obtain rfl:=DG c;exact k
 | 1,c=>obtain rfl:=DG c;exact e
theorem tQ {P:Nat->Prop}{w:World}{ns:List Stil.B8}(h:Dt P w v ns):LJ 4 (Z8 P w) w v ns:=by
 obtain⟨a,cap,rfl,n,y⟩:=h;refine PW AY n λi hi=>?_
 obtain⟨b,o,t,_,_,f⟩:=y i hi;obtain⟨q,k,⟨e,r,x⟩,d,l,m⟩:=(Sj _ _ _ _ _).1 f;refine⟨b,o,t,[AB ns[i].kind,AB ns[i].one.op,e,d],rfl,⟨e,d,rfl,x,m⟩,λj u c=>?_⟩
 match j,c with
 | 0,c=>obtain rfl:=DG c;exact q
 | 1,c=>obtain rfl:=DG c;exact k
 | 2,c=>obtain rfl:=DG c;exact r
 | 3,c=>obtain rfl:=DG c;exact l
theorem tR {P:Nat->Prop}{w:World}{ns:List Stil.B9}(h:Fe P w v ns):LJ 6 (Qb P w) w v ns:=by
 obtain⟨a,cap,rfl,r,A⟩:=h;refine PW AY r λi hi=>?_
 obtain⟨b,o,y,_,_,d⟩:=A i hi;obtain⟨d,⟨l,E,D⟩,e,C,F⟩:=(Lx _ _ _ _ _).1 d;obtain⟨t,m,⟨f,x,z⟩,k,n,q⟩:=(Sj _ _ _ _ _).1 d;refine⟨b,o,y,[AB ns[i].net.kind,AB ns[i].net.one.op,f,k,l,e],rfl,⟨f,k,l,e,rfl,z,q,D,F⟩,λj u c=>?_⟩
 match j,c with
 | 0,c=>obtain rfl:=DG c;exact t
 | 1,c=>obtain rfl:=DG c;exact m
 | 2,c=>obtain rfl:=DG c;exact x
 | 3,c=>obtain rfl:=DG c;exact n
 | 4,c=>obtain rfl:=DG c;exact E
 | 5,c=>obtain rfl:=DG c;exact C
def CX (B:Nat)(v:Value)(b:Nat):Prop:=B<b/\v.ownBlock≠some b
def BJ {P:Nat->Prop}{w W:World}(h:Ac P w W:=by(repeat (first | with_reducible exact Ac.refl _ _ | with_reducible assumption | with_reducible refine Ac.trans ?_ (Ac.set (by first | omega | (intro h;exact absurd rfl h.2) | (intro h;exact absurd h.1 (Bad _)) | (simp[CX];done) | (simp[CX];omega)) _) | with_reducible refine Ac.trans ?_ (Ac.of_below (Aa _ _))))):Ac P w W:=h
def Zn {w:World}(h:w.grownBy w' v.ownBlock):Ac (CX B v) w w':=Ac.of_grown h λ_ a=>a.2
theorem Zm {w:World}(h:v'.ownBlock=v.ownBlock\/v'.ownBlock=some w.heap.size):∀b,b<w.heap.size->CX B v b->CX B v' b:=by
 intro b c a;refine⟨a.1,?_⟩;rcases h with h | h
 ·rw[h];exact a.2
 ·rw[h]
  intro e;simp only[C0] at e;omega
theorem F7 {P Q:Nat->Prop}{w:World}(h:Ac Q w w')(hl:∀b,b<w.heap.size->P b->Q b):Ac P w w':=⟨h.1,λb o c a=>h.2 b o (hl b a c) a⟩
theorem UQ {w:World}{es:List Stil.Elem}{e:Stil.Elem}(h:RowOf 2 (N8 (CX B v) w) xs es)(j:N8 (CX B v) w cs e)(hl:cs.length=2)(hg:w.grownBy w' v.ownBlock)(f:v'.ownBlock=v.ownBlock\/v'.ownBlock=some w.heap.size):RowOf 2 (N8 (CX B v') w') (xs++cs) (es++[e]):=by
 have c:∀cs e,N8 (CX B v) w cs e->N8 (CX B v') w' cs e:=λcs e h=>by
  have i:N8 (λb=>CX B v b/\CX B v' b) w cs e:=h.mono λb d a=>⟨a,Zm f b d a⟩
  exact(i.keep (F7 (Zn (B:=B) hg) λb _ a=>a.1)).mono λb _ a=>a.2
 exact(h.imp λcs e _=>c cs e).append (RowOf.one hl (c _ _ j))
theorem vE {w:World}{ns:List Stil.B8}{n:Stil.B8}(h:RowOf 4 (Z8 (CX B v) w) xs ns)(j:Z8 (CX B v) w cs n)(hl:cs.length=4)(hg:w.grownBy w' v.ownBlock)(f:v'.ownBlock=v.ownBlock\/v'.ownBlock=some w.heap.size):RowOf 4 (Z8 (CX B v') w') (xs++cs) (ns++[n]):=by
 have c:∀cs e,Z8 (CX B v) w cs e->Z8 (CX B v') w' cs e:=λcs e h=>by
  have i:Z8 (λb=>CX B v b/\CX B v' b) w cs e:=h.mono λb d a=>⟨a,Zm f b d a⟩
  exact(i.keep (F7 (Zn (B:=B) hg) λb _ a=>a.1)).mono λb _ a=>a.2
 exact(h.imp λcs e _=>c cs e).append (RowOf.one hl (c _ _ j))
theorem WM {w:World}{ns:List Stil.B9}{n:Stil.B9}(h:RowOf 6 (Qb (CX B v) w) xs ns)(j:Qb (CX B v) w cs n)(hl:cs.length=6)(hg:w.grownBy w' v.ownBlock)(f:v'.ownBlock=v.ownBlock\/v'.ownBlock=some w.heap.size):RowOf 6 (Qb (CX B v') w') (xs++cs) (ns++[n]):=by
 have c:∀cs e,Qb (CX B v) w cs e->Qb (CX B v') w' cs e:=λcs e h=>by
  have i:Qb (λb=>CX B v b/\CX B v' b) w cs e:=h.mono λb d a=>⟨a,Zm f b d a⟩
  exact(i.keep (F7 (Zn (B:=B) hg) λb _ a=>a.1)).mono λb _ a=>a.2
 exact(h.imp λcs e _=>c cs e).append (RowOf.one hl (c _ _ j))
def Fg {w:World}{a:List Stil.CC}(h:Lr w g v a):Bj (λb=>g<b) w v a:=h
def Av2 {w:World}{a:List Stil.CC}(h:Bj (λb=>g<b) w v a):Lr w g v a:=h
def Tt (P:Nat->Prop)(w:World):Bj P w AG []:=⟨none,0,rfl,⟨CG _,λ_=>rfl⟩,λi hi=>by simp at hi⟩
def Jk (P:Nat->Prop)(w:World):Dt P w AG []:=⟨none,0,rfl,⟨CG _,λ_=>rfl⟩,λi hi=>by simp at hi⟩
def Y0 (P:Nat->Prop)(w:World):Dn P w AG []:=⟨none,0,rfl,⟨CG _,λ_=>rfl⟩,λi hi=>by simp at hi⟩
def Tu (P:Nat->Prop)(w:World):Fe P w AG []:=⟨none,0,rfl,⟨CG _,λ_=>rfl⟩,λi hi=>by simp at hi⟩
def Yh (e:Stil.Elem):Prop:=(-1000000<=e.op/\e.op<=1000000)/\(∀d∈e.args,Small d)/\e.args.length<=100000
def Ll:Stil.B8->Prop
 | ⟨k,e,kids⟩=>(-1000000<=k/\k<=1000000)/\Yh e/\∀p∈kids.map Ll,p
def Q9 (k:Int)(e:Stil.Elem)(kids:List Stil.B8):Ll ⟨k,e,kids⟩↔(-1000000<=k/\k<=1000000)/\Yh e/\∀x∈kids,Ll x:=by rw[Ll,Stil.all_map]
def Jw:Stil.B9->Prop
 | ⟨n,a,kids⟩=>Ll n/\(∀c∈a,Yh c)/\∀p∈kids.map Jw,p
def Hr (n:Stil.B8)(a:List Stil.Elem)(kids:List Stil.B9):Jw ⟨n,a,kids⟩↔Ll n/\(∀c∈a,Yh c)/\∀x∈kids,Jw x:=by rw[Jw,Stil.all_map]
def Yh.wf {e:Stil.Elem}(h:Yh e):e.wf:=⟨⟨by have:=h.1.1;omega,by have:=h.1.2;omega⟩,by have:=h.2.2;omega,λd hd=>(h.2.1 d hd).fits⟩
def Ll.wf (n:Stil.B8):Ll n->G9 n<=1000000->IP n:=by
 induction n using Fp with
 | h k e kids f=>
  intro h c;obtain⟨i,d,b⟩:=(Q9 _ _ _).1 h;rw[Fa] at c;refine(eA _ _ _).2 ⟨⟨AQ,AQ⟩,d.wf,AQ,λx a=>f x a (b x a) ?_⟩;have:=Eb G9 kids x a
  omega
def Jw.wf (n:Stil.B9):Jw n->Gt n<=1000000->KE n:=by
 induction n using Fq with
 | h n a kids i=>
  intro h e;obtain⟨j,f,d⟩:=(Hr _ _ _).1 h;rw[Gm] at e;have l:Gu a=a.length+(a.map Qd).sum:=rfl;refine(eK _ _ _).2 ⟨Ll.wf n j AQ,AQ,λc k=>(f c k).wf,AQ,λx b=>i x b (d x b) ?_⟩;have:=Eb Gt kids x b
  omega
