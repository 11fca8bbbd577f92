import Derived.Test.YtnpfcnolmkanfaaGreatDoorGT
import Derived.Maps.AppendAt
import Derived.Test.YtnpfcnolmkanfaaGreatDoorD9
namespace Go.Proofs.YtnpfcnolmkanfaaGreatDoor
open Stil
open Go.RowKit Go.Sort Go.BigFrame
variable {B base g o s:Nat}{cs xs ys:List Value}{v v':Value}{w':World}{α:Type}
def Ac (P:Nat->Prop)(w w':World):Prop:=w.heap.size<=w'.heap.size/\∀b o,P b->b<w.heap.size->w'.cell? ⟨b,o,none⟩=w.cell? ⟨b,o,none⟩
theorem Ac.refl (P:Nat->Prop)(w:World):Ac P w w:=⟨A57 _,λ_ _ _ _=>rfl⟩
theorem Ac.trans {P:Nat->Prop}{a b c:World}(h1:Ac P a b)(f:Ac P b c):Ac P a c:=
 ⟨A6e h1.1 f.1,λx o e d=>(f.2 x o e (A51 d h1.1)).trans (h1.2 x o e d)⟩
theorem Ac.of_below {P:Nat->Prop}{w:World}(h:Below w.heap.size w w'):Ac P w w':=⟨h.size,λb o _ a=>h.cell (p:=⟨b,o,none⟩) a⟩
theorem Ac.of_grown {P:Nat->Prop}{w:World}{r:Option Nat}(h:w.grownBy w' r)(hr:∀b,P b->r≠some b):Ac P w w':=⟨h.size,λb o a c=>by
 unfold World.cell?
 rw[h.block b c (λe=>hr b a e.symm)]⟩
theorem Ac.set {P:Nat->Prop}{w:World}{b:Nat}(c:¬P b)(v:Value):Ac P w (w.setCell ⟨b,o,none⟩ v):=⟨((Below.refl 0 w).setCell (A7l _) v).size,λx p a _=>by
 have d:¬x=b:=λe=>c (e ▸ a)
 have f:¬b=x:=λe=>c (e ▸ a)
 simp[go_sem]⟩
def Yo (a:Option Addr)(n cap:Nat):Prop:=n<=cap/\(a=none->cap=0)
def Ce (P:Nat->Prop)(w:World)(v:Value)(c:List Stil.Dev):Prop:=∃a cap,v=.slice a c.length cap/\Yo a c.length cap/\∀i (h:i<c.length),∃b o,a=some ⟨b,o,none⟩/\P b/\b<w.heap.size/\Jc w b (o+i*3) c[i]
theorem Jc.keepIn {P:Nat->Prop}{w:World}{b:Nat}{d:Stil.Dev}(h:Jc w b o d)(a:Ac P w w')(hl:P b)(c:b<w.heap.size):Jc w' b o d:=by
 obtain⟨e,i,f⟩:=h;exact⟨by rw[a.2 _ _ hl c];exact e,by rw[a.2 _ _ hl c];exact i,by rw[a.2 _ _ hl c];exact f⟩
theorem Ce.keep {P:Nat->Prop}{w:World}{f:List Stil.Dev}(h:Ce P w v f)(c:Ac P w w'):Ce P w' v f:=by
 obtain⟨a,cap,k,j,m⟩:=h;refine⟨a,cap,k,j,λi hi=>?_⟩;obtain⟨b,o,l,e,d,hd⟩:=m i hi;exact⟨b,o,l,e,A51 d c.1,hd.keepIn c e d⟩
theorem Ce.mono {P Q:Nat->Prop}{w:World}{d:List Stil.Dev}(h:Ce Q w v d)(hl:∀b,b<w.heap.size->Q b->P b):Ce P w v d:=by
 obtain⟨a,cap,k,j,f⟩:=h;refine⟨a,cap,k,j,λi hi=>?_⟩;obtain⟨b,o,e,l,c,hd⟩:=f i hi;exact⟨b,o,e,hl _ c l,c,hd⟩
theorem Ce.at {P:Nat->Prop}{w:World}{c:List Stil.Dev}(h:Ce P w v c):Dh w v c:=by
 obtain⟨a,cap,d,k,j⟩:=h;refine⟨a,cap,d,λi hi=>?_⟩;obtain⟨b,o,f,l,e,hd⟩:=j i hi;exact⟨b,o,f,e,hd⟩
def Qu (P:Nat->Prop)(w:World):Nat->Nat->Stil.Net->Prop
 | b,o,⟨k,e,kids⟩=>w.cell? ⟨b,o,none⟩=some (.int .i64 k)/\w.cell? ⟨b,o+1,none⟩=some (.int .i64 e.op)/\
   (∃d,w.cell? ⟨b,o+2,none⟩=some d/\Ce P w d e.args)/\
   ∃a cap,w.cell? ⟨b,o+3,none⟩=some (.slice a kids.length cap)/\Yo a kids.length cap/\∀i (h:i<kids.length),∃c f,a=some ⟨c,f,none⟩/\P c/\c<w.heap.size/\
    (have:=A8f (A59 h);Qu P w c (f+i*4) kids[i])
theorem Adc (P:Nat->Prop)(w:World)(b o:Nat)(k:Int)(e:Stil.Elem)(kids:List Stil.Net):Qu P w b o ⟨k,e,kids⟩=(w.cell? ⟨b,o,none⟩=some (.int .i64 k)/\w.cell? ⟨b,o+1,none⟩=some (.int .i64 e.op)/\
   (∃d,w.cell? ⟨b,o+2,none⟩=some d/\Ce P w d e.args)/\
   ∃a cap,w.cell? ⟨b,o+3,none⟩=some (.slice a kids.length cap)/\Yo a kids.length cap/\∀i (h:i<kids.length),∃c f,a=some ⟨c,f,none⟩/\P c/\c<w.heap.size/\Qu P w c (f+i*4) kids[i]):=by rw[Qu]
def Dv (P:Nat->Prop)(w:World)(v:Value)(ns:List Stil.Net):Prop:=∃a cap,v=.slice a ns.length cap/\Yo a ns.length cap/\∀i (h:i<ns.length),∃b o,a=some ⟨b,o,none⟩/\P b/\b<w.heap.size/\Qu P w b (o+i*4) ns[i]
theorem Qj (P:Nat->Prop)(w:World)(b o:Nat)(n:Stil.Net):Qu P w b o n↔(w.cell? ⟨b,o,none⟩=some (.int .i64 n.kind)/\w.cell? ⟨b,o+1,none⟩=some (.int .i64 n.one.op)/\
   (∃m,w.cell? ⟨b,o+2,none⟩=some m/\Ce P w m n.one.args)/\∃l,w.cell? ⟨b,o+3,none⟩=some l/\Dv P w l n.kids):=by
 obtain⟨k,e,kids⟩:=n;rw[Adc];constructor
 ·rintro⟨c,j,i,a,cap,h,f,d⟩;exact⟨c,j,i,_,h,a,cap,rfl,f,d⟩
 ·rintro⟨c,j,i,_,h,a,cap,rfl,f,d⟩;exact⟨c,j,i,a,cap,h,f,d⟩
theorem zv0 {p:Prop}(h:p:=by
 obtain⟨b',o',ha,hlo,hl',hn⟩:=h6 i hi
 exact⟨b',o',ha,hlo,A51 hl' hk.1,ih _ (A59 hi) b' _ hn hlo hl'⟩):p:=h
theorem Qu.keep {P:Nat->Prop}{w:World}(hk:Ac P w w'):∀(n:Stil.Net) (b o:Nat),Qu P w b o n->P b->b<w.heap.size->Qu P w' b o n:=by
 intro n;induction n using Gf with
 | h k e kids ih=>
  intro b o h d c;rw[Adc] at h ⊢;obtain⟨j,t,⟨q,r,m⟩,a,cap,l,f,h6⟩:=h;refine⟨?_,?_,⟨q,?_,m.keep hk⟩,a,cap,?_,f,λi hi=>?_⟩
  ·rw[hk.2 _ _ d c];exact j
  ·rw[hk.2 _ _ d c];exact t
  ·rw[hk.2 _ _ d c];exact r
  ·rw[hk.2 _ _ d c];exact l
  ·exact zv0
theorem Dv.keep {P:Nat->Prop}{w:World}{ns:List Stil.Net}(h:Dv P w v ns)(c:Ac P w w'):Dv P w' v ns:=by
 obtain⟨a,cap,j,f,l⟩:=h;refine⟨a,cap,j,f,λi hi=>?_⟩;obtain⟨b,o,k,e,d,hd⟩:=l i hi;exact⟨b,o,k,e,A51 d c.1,Qu.keep c _ _ _ hd e d⟩
theorem Qu.mono {P Q:Nat->Prop}{w:World}(hl:∀b,b<w.heap.size->Q b->P b):∀(n:Stil.Net) (b o:Nat),Qu Q w b o n->Qu P w b o n:=by
 intro n;induction n using Gf with
 | h k e kids m=>
  intro b o h;rw[Adc] at h ⊢;obtain⟨l,A,⟨x,y,u⟩,a,cap,p,j,q⟩:=h;refine⟨l,A,⟨x,y,u.mono hl⟩,a,cap,p,j,λi hi=>?_⟩;obtain⟨d,z,f,t,c,r⟩:=q i hi;exact⟨d,z,f,hl _ c t,c,m _ (A59 hi) d _ r⟩
theorem Dv.mono {P Q:Nat->Prop}{w:World}{ns:List Stil.Net}(h:Dv Q w v ns)(hl:∀b,b<w.heap.size->Q b->P b):Dv P w v ns:=by
 obtain⟨a,cap,j,f,e⟩:=h;refine⟨a,cap,j,f,λi hi=>?_⟩;obtain⟨b,o,d,k,c,hd⟩:=e i hi;exact⟨b,o,d,hl _ c k,c,Qu.mono hl _ _ _ hd⟩
theorem Qu.at {P:Nat->Prop}{w:World}:∀(n:Stil.Net) (b o:Nat),Qu P w b o n->Sj w b o n:=by
 intro n;induction n using Gf with
 | h k e kids j=>
  intro b o h;rw[Adc] at h;rw[Ade];obtain⟨f,y,⟨t,u,r⟩,a,cap,l,z,m⟩:=h;refine⟨f,y,⟨t,u,r.at⟩,a,cap,l,λi hi=>?_⟩;obtain⟨c,x,d,A,q,p⟩:=m i hi;exact⟨c,x,d,q,j _ (A59 hi) c _ p⟩
theorem Dv.at {P:Nat->Prop}{w:World}{ns:List Stil.Net}(h:Dv P w v ns):E8 w v ns:=by
 obtain⟨a,cap,c,j,f⟩:=h;refine⟨a,cap,c,λi hi=>?_⟩;obtain⟨b,o,e,k,d,hd⟩:=f i hi;exact⟨b,o,e,d,Qu.at _ _ _ hd⟩
def Aqp (P:Nat->Prop)(w:World)(b o:Nat)(e:Stil.Elem):Prop:=w.cell? ⟨b,o,none⟩=some (.int .i64 e.op)/\∃a,w.cell? ⟨b,o+1,none⟩=some a/\Ce P w a e.args
def Dk (P:Nat->Prop)(w:World)(v:Value)(es:List Stil.Elem):Prop:=∃a cap,v=.slice a es.length cap/\Yo a es.length cap/\∀i (h:i<es.length),∃b o,a=some ⟨b,o,none⟩/\P b/\b<w.heap.size/\Aqp P w b (o+i*2) es[i]
theorem Aqp.keep {P:Nat->Prop}{w:World}{b:Nat}{e:Stil.Elem}(h:Aqp P w b o e)(a:Ac P w w')(hl:P b)(c:b<w.heap.size):Aqp P w' b o e:=by
 obtain⟨d,f,j,i⟩:=h;exact⟨by rw[a.2 _ _ hl c];exact d,f,by rw[a.2 _ _ hl c];exact j,i.keep a⟩
theorem Dk.keep {P:Nat->Prop}{w:World}{es:List Stil.Elem}(h:Dk P w v es)(c:Ac P w w'):Dk P w' v es:=by
 obtain⟨a,cap,j,f,l⟩:=h;refine⟨a,cap,j,f,λi hi=>?_⟩;obtain⟨b,o,k,e,d,hd⟩:=l i hi;exact⟨b,o,k,e,A51 d c.1,hd.keep c e d⟩
theorem Dk.mono {P Q:Nat->Prop}{w:World}{es:List Stil.Elem}(h:Dk Q w v es)(hl:∀b,b<w.heap.size->Q b->P b):Dk P w v es:=by
 obtain⟨a,cap,k,j,f⟩:=h;refine⟨a,cap,k,j,λi hi=>?_⟩;obtain⟨b,o,e,l,c,d,m,p,n⟩:=f i hi;exact⟨b,o,e,hl _ c l,c,d,m,p,n.mono hl⟩
theorem Dk.at {P:Nat->Prop}{w:World}{es:List Stil.Elem}(h:Dk P w v es):Hz w v es:=by
 obtain⟨a,cap,f,n,e⟩:=h;refine⟨a,cap,f,λi hi=>?_⟩;obtain⟨b,o,d,p,j,c,k,m,l⟩:=e i hi;exact⟨b,o,d,j,c,k,m,l.at⟩
def Vt (P:Nat->Prop)(w:World):Nat->Nat->Stil.Arm->Prop
 | b,o,⟨n,f,kids⟩=>Qu P w b o n/\(∃d,w.cell? ⟨b,o+4,none⟩=some d/\Dk P w d f)/\
   ∃a cap,w.cell? ⟨b,o+5,none⟩=some (.slice a kids.length cap)/\Yo a kids.length cap/\∀i (h:i<kids.length),∃c e,a=some ⟨c,e,none⟩/\P c/\c<w.heap.size/\
    (have:=A8f (A59 h);Vt P w c (e+i*6) kids[i])
theorem Adf (P:Nat->Prop)(w:World)(b o:Nat)(n:Stil.Net)(e:List Stil.Elem)(kids:List Stil.Arm):Vt P w b o ⟨n,e,kids⟩=(Qu P w b o n/\(∃d,w.cell? ⟨b,o+4,none⟩=some d/\Dk P w d e)/\
   ∃a cap,w.cell? ⟨b,o+5,none⟩=some (.slice a kids.length cap)/\Yo a kids.length cap/\∀i (h:i<kids.length),∃c f,a=some ⟨c,f,none⟩/\P c/\c<w.heap.size/\Vt P w c (f+i*6) kids[i]):=by rw[Vt]
def Es (P:Nat->Prop)(w:World)(v:Value)(l:List Stil.Arm):Prop:=∃a cap,v=.slice a l.length cap/\Yo a l.length cap/\∀i (h:i<l.length),∃b o,a=some ⟨b,o,none⟩/\P b/\b<w.heap.size/\Vt P w b (o+i*6) l[i]
theorem Aa8 (P:Nat->Prop)(w:World)(b o:Nat)(n:Stil.Arm):Vt P w b o n↔(Qu P w b o n.net/\(∃l,w.cell? ⟨b,o+4,none⟩=some l/\Dk P w l n.coils)/\∃j,w.cell? ⟨b,o+5,none⟩=some j/\Es P w j n.kids):=by
 obtain⟨k,e,kids⟩:=n;rw[Adf];constructor
 ·rintro⟨c,i,a,cap,h,f,d⟩;exact⟨c,i,_,h,a,cap,rfl,f,d⟩
 ·rintro⟨c,i,_,h,a,cap,rfl,f,d⟩;exact⟨c,i,a,cap,h,f,d⟩
theorem Vt.keep {P:Nat->Prop}{w:World}(hk:Ac P w w'):∀(n:Stil.Arm) (b o:Nat),Vt P w b o n->P b->b<w.heap.size->Vt P w' b o n:=by
 intro n;induction n using Fz with
 | h n q kids ih=>
  intro b o h d c;rw[Adf] at h ⊢;obtain⟨f,⟨k,m,l⟩,a,cap,j,e,h6⟩:=h;refine⟨Qu.keep hk _ _ _ f d c,⟨k,?_,l.keep hk⟩,a,cap,?_,e,λi hi=>?_⟩
  ·rw[hk.2 _ _ d c];exact m
  ·rw[hk.2 _ _ d c];exact j
  ·exact zv0
theorem Es.keep {P:Nat->Prop}{w:World}{ns:List Stil.Arm}(h:Es P w v ns)(c:Ac P w w'):Es P w' v ns:=by
 obtain⟨a,cap,j,f,l⟩:=h;refine⟨a,cap,j,f,λi hi=>?_⟩;obtain⟨b,o,k,e,d,hd⟩:=l i hi;exact⟨b,o,k,e,A51 d c.1,Vt.keep c _ _ _ hd e d⟩
theorem Vt.mono {P Q:Nat->Prop}{w:World}(hl:∀b,b<w.heap.size->Q b->P b):∀(n:Stil.Arm) (b o:Nat),Vt Q w b o n->Vt P w b o n:=by
 intro n;induction n using Fz with
 | h n y kids k=>
  intro b o h;rw[Adf] at h ⊢;obtain⟨j,⟨r,u,t⟩,a,cap,l,f,m⟩:=h;refine⟨Qu.mono hl _ _ _ j,⟨r,u,t.mono hl⟩,a,cap,l,f,λi hi=>?_⟩;obtain⟨d,x,e,q,c,p⟩:=m i hi;exact⟨d,x,e,hl _ c q,c,k _ (A59 hi) d _ p⟩
theorem Es.mono {P Q:Nat->Prop}{w:World}{ns:List Stil.Arm}(h:Es Q w v ns)(hl:∀b,b<w.heap.size->Q b->P b):Es P w v ns:=by
 obtain⟨a,cap,j,f,e⟩:=h;refine⟨a,cap,j,f,λi hi=>?_⟩;obtain⟨b,o,d,k,c,hd⟩:=e i hi;exact⟨b,o,d,hl _ c k,c,Vt.mono hl _ _ _ hd⟩
theorem Vt.at {P:Nat->Prop}{w:World}:∀(n:Stil.Arm) (b o:Nat),Vt P w b o n->Uz w b o n:=by
 intro n;induction n using Fz with
 | h n u kids f=>
  intro b o h;rw[Adf] at h;rw[Adg];obtain⟨e,⟨m,r,q⟩,a,cap,j,x,k⟩:=h;refine⟨Qu.at _ _ _ e,⟨m,r,q.at⟩,a,cap,j,λi hi=>?_⟩;obtain⟨c,t,d,y,p,l⟩:=k i hi;exact⟨c,t,d,p,f _ (A59 hi) c _ l⟩
theorem Es.at {P:Nat->Prop}{w:World}{ns:List Stil.Arm}(h:Es P w v ns):Ea w v ns:=by
 obtain⟨a,cap,c,j,f⟩:=h;refine⟨a,cap,c,λi hi=>?_⟩;obtain⟨b,o,e,k,d,hd⟩:=f i hi;exact⟨b,o,e,d,Vt.at _ _ _ hd⟩
def RowOf {α:Type}(s:Nat)(R:List Value->α->Prop)(xs:List Value)(a:List α):Prop:=xs.length=a.length*s/\∀i (h:i<a.length),R ((xs.drop (i*s)).take s) a[i]
theorem RowOf.nil (s:Nat)(R:List Value->α->Prop):RowOf s R [] []:=⟨spz,λi h=>by simp at h⟩
theorem RowOf.imp {R Q:List Value->α->Prop}{b:List α}(h:RowOf s R xs b)(c:∀cs a,a∈b->R cs a->Q cs a):RowOf s Q xs b:=
 ⟨h.1,λi hi=>c _ _ (A59 hi) (h.2 i hi)⟩
theorem RowOf.append {R:List Value->α->Prop}{a b:List α}(h:RowOf s R xs a)(k:RowOf s R ys b):RowOf s R (xs++ys) (a++b):=by
 have d:=h.1;have f:=k.1;refine⟨by simp[d,f,Nat.add_mul],λi hi=>?_⟩;by_cases c:i<a.length
 ·have l:i*s+s<=a.length*s:=by rw[<-A8k];exact A7j s c
  rw[A9d c,List.drop_append_of_le_length omz,List.take_append_of_le_length yAd];exact h.2 i c
 ·have j:i - a.length<b.length:=by simp at hi;omega
  have e:i*s=xs.length+(i - a.length)*s:=by rw[d,<-Nat.add_mul];congr 1;omega
  rw[List.getElem_append_right omz,e,List.drop_append];simp only[Nat.le_add_right,A80,A6t,Nat.add_sub_cancel_left];exact k.2 _ j
theorem RowOf.one {R:List Value->α->Prop}{a:α}(hl:cs.length=s)(h:R cs a):RowOf s R cs [a]:=
 ⟨by simp[hl],λi hi=>by
  have:i=0:=by simp at hi;omega
  subst this
  simpa[<-hl] using h⟩
theorem RowOf.set {R:List Value->α->Prop}{b:List α}{k:Nat}{a:α}(h:RowOf s R xs b)(p:k<b.length)(hl:ys.length=xs.length)(f:R ((ys.drop (k*s)).take s) a)
  (l:∀j,j<k*s\/k*s+s<=j->ys[j]?=xs[j]?):RowOf s R ys (b.set k a):=by
 refine⟨by simp[hl,h.1],λi hi=>?_⟩;by_cases e:i=k
 ·subst e
  rw[List.getElem_set_self];exact f
 ·rw[List.getElem_set_ne (λx=>e x.symm)]
  have m:i<b.length:=by simpa using hi
  have n:=h.2 i m;have:(ys.drop (i*s)).take s=(xs.drop (i*s)).take s:=by
   apply A8t;intro j;simp only[A71,A72];by_cases c:j<s
   ·rw[if_pos c,if_pos c]
    apply l;rcases Nat.lt_or_gt_of_ne e with d | d
    ·left
     have:i*s+s<=k*s:=by rw[<-A8k];exact A7j s d
     omega
    ·right
     have:k*s+s<=i*s:=by rw[<-A8k];exact A7j s d
     omega
   ·rw[if_neg c,if_neg c]
  rw[this];exact n
def Ls (P:Nat->Prop)(w:World)(cs:List Value)(e:Stil.Elem):Prop:=∃a,cs=[.int .i64 e.op,a]/\Ce P w a e.args
def Zv (P:Nat->Prop)(w:World)(cs:List Value)(n:Stil.Net):Prop:=∃a b,cs=[.int .i64 n.kind, .int .i64 n.one.op,a,b]/\Ce P w a n.one.args/\Dv P w b n.kids
def Ot (P:Nat->Prop)(w:World)(cs:List Value)(a:Stil.Arm):Prop:=∃e b c d,cs=[.int .i64 a.net.kind, .int .i64 a.net.one.op,e,b,c,d]/\Ce P w e a.net.one.args/\Dv P w b a.net.kids/\Dk P w c a.coils/\Es P w d a.kids
theorem Ls.keep {P:Nat->Prop}{w:World}{e:Stil.Elem}(h:Ls P w cs e)(a:Ac P w w'):Ls P w' cs e:=by
 obtain⟨c,b,d⟩:=h;exact⟨c,b,d.keep a⟩
theorem Zv.keep {P:Nat->Prop}{w:World}{n:Stil.Net}(h:Zv P w cs n)(a:Ac P w w'):Zv P w' cs n:=by
 obtain⟨d,b,c,f,e⟩:=h;exact⟨d,b,c,f.keep a,e.keep a⟩
theorem Ot.keep {P:Nat->Prop}{w:World}{n:Stil.Arm}(h:Ot P w cs n)(a:Ac P w w'):Ot P w' cs n:=by
 obtain⟨i,b,c,d,e,l,k,f,j⟩:=h;exact⟨i,b,c,d,e,l.keep a,k.keep a,f.keep a,j.keep a⟩
theorem Ls.mono {P Q:Nat->Prop}{w:World}{e:Stil.Elem}(h:Ls Q w cs e)(hl:∀b,b<w.heap.size->Q b->P b):Ls P w cs e:=by
 obtain⟨c,a,d⟩:=h;exact⟨c,a,d.mono hl⟩
theorem Zv.mono {P Q:Nat->Prop}{w:World}{n:Stil.Net}(h:Zv Q w cs n)(hl:∀b,b<w.heap.size->Q b->P b):Zv P w cs n:=by
 obtain⟨d,a,c,f,e⟩:=h;exact⟨d,a,c,f.mono hl,e.mono hl⟩
theorem Ot.mono {P Q:Nat->Prop}{w:World}{n:Stil.Arm}(h:Ot Q w cs n)(hl:∀b,b<w.heap.size->Q b->P b):Ot P w cs n:=by
 obtain⟨i,a,c,d,e,l,k,f,j⟩:=h;exact⟨i,a,c,d,e,l.mono hl,k.mono hl,f.mono hl,j.mono hl⟩
theorem Gx {w:World}{n:Nat}{e:TypeId}(h:w.ownsRow base e s v n xs):∃a cap,v=.slice a n cap/\Yo a n cap/\(∀b o sp,a=some ⟨b,o,sp⟩->o=0/\sp=none/\v.ownBlock=some b/\base<=b/\b<w.heap.size/\∀j u,xs[j]?=some u->w.cell? ⟨b,j,none⟩=some u)/\(0<n->a≠none):=by
 rcases h.2 with⟨k,m⟩ | ⟨g,cap,cur,d,l,y,r,z⟩
 ·have t:=m
  subst t;exact⟨none,0,k,⟨A57 _,λ_=>rfl⟩,λb o sp c=>(by cases c),λq=>absurd q omz⟩
 ·refine⟨_,cap,d,⟨r,λc=>(by cases c)⟩,λb o sp c=>?_,λ_ c=>(by cases c)⟩
  simp only[A65,Addr.mk.injEq] at c;obtain⟨rfl,rfl,rfl⟩:=c;have f:v.ownBlock=some g:=by rw[d];rfl
  refine⟨rfl,rfl,f,l,(h.lt g f).2,λj u i=>?_⟩;have x:=(List.getElem?_eq_some_iff.1 i).1;subst d;have:=h.cellAt j (by have:=h.1;omega)
  rw[this];exact i
theorem Ago {R:List Value->α->Prop}{b:List α}(_h:RowOf s R xs b){i:Nat}(_hi:i<b.length)(c:(xs.drop (i*s)).take s=cs):∀j u,cs[j]?=some u->xs[i*s+j]?=some u:=by
 intro j u a;rw[<-c] at a;simp only[A71,A72] at a;split at a
 ·exact a
 ·cases a
theorem Ja {P:Nat->Prop}{w:World}{es:List Stil.Elem}(h:w.ownsRow base 40 2 v es.length xs)(hr:RowOf 2 (Ls P w) xs es)(n:∀b,v.ownBlock=some b->P b):Dk P w v es:=by
 obtain⟨a,cap,l,k,f,q⟩:=Gx h;refine⟨a,cap,l,k,λi hi=>?_⟩;obtain⟨⟨b,o,sp⟩,d⟩:∃ad,a=some ad:=by
  cases a with
  | none=>exact absurd rfl (q omz)
  | some ad=>exact⟨ad,rfl⟩
 obtain⟨rfl,rfl,m,x,u,e⟩:=f b o sp d;obtain⟨t,r,j⟩:=hr.2 i hi;have c:=Ago hr hi r;refine⟨b,0,d,n b m,u,?_,t,?_,j⟩
 ·rw[A6b];exact e _ _ (c 0 _ rfl)
 ·rw[A6b];exact e _ _ (c 1 _ rfl)
theorem Og {P:Nat->Prop}{w:World}{ns:List Stil.Net}(h:w.ownsRow base 43 4 v ns.length xs)(hr:RowOf 4 (Zv P w) xs ns)(r:∀b,v.ownBlock=some b->P b):Dv P w v ns:=by
 obtain⟨a,cap,m,l,j,t⟩:=Gx h;refine⟨a,cap,m,l,λi hi=>?_⟩;obtain⟨⟨b,o,sp⟩,e⟩:∃ad,a=some ad:=by
  cases a with
  | none=>exact absurd rfl (t omz)
  | some ad=>exact⟨ad,rfl⟩
 obtain⟨rfl,rfl,n,z,y,d⟩:=j b o sp e;obtain⟨x,f,u,k,q⟩:=hr.2 i hi;have c:=Ago hr hi u;refine⟨b,0,e,r b n,y,(Qj _ _ _ _ _).2 ⟨?_,?_,⟨x,?_,k⟩,f,?_,q⟩⟩
 ·rw[A6b];exact d _ _ (c 0 _ rfl)
 ·rw[A6b];exact d _ _ (c 1 _ rfl)
 ·rw[A6b];exact d _ _ (c 2 _ rfl)
 ·rw[A6b];exact d _ _ (c 3 _ rfl)
theorem Fb {P:Nat->Prop}{w:World}{ns:List Stil.Arm}(h:w.ownsRow base 46 6 v ns.length xs)(hr:RowOf 6 (Ot P w) xs ns)(t:∀b,v.ownBlock=some b->P b):Es P w v ns:=by
 obtain⟨a,cap,m,l,j,u⟩:=Gx h;refine⟨a,cap,m,l,λi hi=>?_⟩;obtain⟨⟨b,o,sp⟩,e⟩:∃ad,a=some ad:=by
  cases a with
  | none=>exact absurd rfl (u omz)
  | some ad=>exact⟨ad,rfl⟩
 obtain⟨rfl,rfl,n,E,D,d⟩:=j b o sp e;obtain⟨C,x,y,f,z,k,r,q,A⟩:=hr.2 i hi;have c:=Ago hr hi z;refine⟨b,0,e,t b n,D,(Aa8 _ _ _ _ _).2 ⟨(Qj _ _ _ _ _).2 ⟨?_,?_,⟨C,?_,k⟩,x,?_,r⟩,⟨y,?_,q⟩,f,?_,A⟩⟩
 ·rw[A6b];exact d _ _ (c 0 _ rfl)
 ·rw[A6b];exact d _ _ (c 1 _ rfl)
 ·rw[A6b];exact d _ _ (c 2 _ rfl)
 ·rw[A6b];exact d _ _ (c 3 _ rfl)
 ·rw[A6b];exact d _ _ (c 4 _ rfl)
 ·rw[A6b];exact d _ _ (c 5 _ rfl)
theorem Avr {R:List Value->α->Prop}{a:List α}(f:Nat->Value)(h:∀i (hi:i<a.length),R ((List.range s).map λj=>f (i*s+j)) a[i]):RowOf s R ((List.range (a.length*s)).map f) a:=by
 refine⟨spz,λi hi=>?_⟩;have e:(((List.range (a.length*s)).map f).drop (i*s)).take s=(List.range s).map λj=>f (i*s+j):=by
  have c:i*s+s<=a.length*s:=by rw[<-A8k];exact A7j s hi
  apply A8t;intro j;simp only[A71,A72,A8j];by_cases b:j<s
  ·rw[if_pos b,A85 omz,A85 b];rfl
  ·rw[if_neg b,A79 yAd];rfl
 rw[e];exact h i hi
def A1d {α:Type}(s:Nat)(R:List Value->α->Prop)(w:World)(v:Value)(b:List α):Prop:=∃a cap,v=.slice a b.length cap/\Yo a b.length cap/\∃xs,RowOf s R xs b/\∀ad,a=some ad->∀j u,xs[j]?=some u->w.cell? (ad.add j)=some u
theorem Ah2 {R:List Value->α->Prop}{w:World}{a:Option Addr}{cap:Nat}{d:List α}(x:0<s)(t:Yo a d.length cap)(h:∀i (hi:i<d.length),∃b o,a=some ⟨b,o,none⟩/\∃cs:List Value,cs.length=s/\R cs d[i]/\∀j u,cs[j]?=some u->w.cell? ⟨b,o+i*s+j,none⟩=some u):A1d s R w (.slice a d.length cap) d:=by
 refine⟨a,cap,rfl,t,?_⟩;by_cases n:d=[]
 ·subst n
  exact⟨[],RowOf.nil _ _,λad _ j u c=>by simp at c⟩
 ·obtain⟨b,o,rfl,_⟩:=h 0 (by cases d with | nil=>exact absurd rfl n | cons _ _=>simp)
  have m:∀i (hi:i<d.length),∃cs:List Value,cs.length=s/\R cs d[i]/\∀j u,cs[j]?=some u->w.cell? ⟨b,o+i*s+j,none⟩=some u:=by
   intro i hi;obtain⟨C,D,e,y⟩:=h i hi;simp only[A65,Addr.mk.injEq,A8u] at e;obtain⟨rfl,rfl⟩:=e;exact y
  refine⟨_,Avr (λj=>(w.cell? ⟨b,o+j,none⟩).getD (.int .i64 0)) (λi hi=>?_),λad r j u c=>?_⟩
  ·obtain⟨cs,l,q,f⟩:=m i hi
   have e:((List.range s).map λj=>(w.cell? ⟨b,o+(i*s+j),none⟩).getD (.int .i64 0))=cs:=by
    apply A8t;intro j;by_cases c:j<s
    ·rw[A8j,A85 c,A6j omz]
     simp only[A8q,A65];rw[<-Nat.add_assoc,f j cs[j] (A6j omz)];rfl
    ·rw[A79 yAd,A79 omz]
   rw[e];exact q
  ·cases r
   rw[A8j] at c;have k:j<d.length*s:=by
    apply Classical.byContradiction;intro A;rw[A79 yAd] at c;cases c
   rw[A85 k] at c;simp only[A8q,A65] at c;have hi:=Nat.div_lt_of_lt_mul (by rw[Nat.mul_comm];exact k);obtain⟨cs,l,q,f⟩:=m (j / s) hi;have z:j % s<cs.length:=by rw[l];exact Nat.mod_lt _ x
   have:=f (j % s) cs[j % s] (A6j z)
   have e:o+j / s*s+j % s=o+j:=by have:=Nat.div_add_mod j s;rw[Nat.mul_comm] at this;omega
   rw[e] at this;rw[this] at c;rw[Addr.add_lit,this,<-c];rfl
theorem Aj6 {P:Nat->Prop}{w:World}{es:List Stil.Elem}(h:Dk P w v es):A1d 2 (Ls P w) w v es:=by
 obtain⟨a,cap,rfl,l,k⟩:=h;refine Ah2 dcz l λi hi=>?_
 obtain⟨b,o,f,_,_,e,d,n,m⟩:=k i hi;refine⟨b,o,f,[.int .i64 es[i].op,d],rfl,⟨d,rfl,m⟩,λj u c=>?_⟩
 match j,c with
 | 0,c=>obtain rfl:=A67 c;exact e
 | 1,c=>obtain rfl:=A67 c;exact n
theorem Ana {P:Nat->Prop}{w:World}{ns:List Stil.Net}(h:Dv P w v ns):A1d 4 (Zv P w) w v ns:=by
 obtain⟨a,cap,rfl,k,q⟩:=h;refine Ah2 dcz k λi hi=>?_
 obtain⟨b,o,f,_,_,r⟩:=q i hi;obtain⟨l,y,⟨e,x,t⟩,d,m,n⟩:=(Qj _ _ _ _ _).1 r;refine⟨b,o,f,[.int .i64 ns[i].kind, .int .i64 ns[i].one.op,e,d],rfl,⟨e,d,rfl,t,n⟩,λj u c=>?_⟩
 match j,c with
 | 0,c=>obtain rfl:=A67 c;exact l
 | 1,c=>obtain rfl:=A67 c;exact y
 | 2,c=>obtain rfl:=A67 c;exact x
 | 3,c=>obtain rfl:=A67 c;exact m
theorem Anb {P:Nat->Prop}{w:World}{ns:List Stil.Arm}(h:Es P w v ns):A1d 6 (Ot P w) w v ns:=by
 obtain⟨a,cap,rfl,q,A⟩:=h;refine Ah2 dcz q λi hi=>?_
 obtain⟨b,o,m,_,_,d⟩:=A i hi;obtain⟨d,⟨k,t,r⟩,e,E,n⟩:=(Aa8 _ _ _ _ _).1 d;obtain⟨x,F,⟨l,D,C⟩,f,y,z⟩:=(Qj _ _ _ _ _).1 d;refine⟨b,o,m,[.int .i64 ns[i].net.kind, .int .i64 ns[i].net.one.op,l,f,k,e],rfl,⟨l,f,k,e,rfl,C,z,r,n⟩,λj u c=>?_⟩
 match j,c with
 | 0,c=>obtain rfl:=A67 c;exact x
 | 1,c=>obtain rfl:=A67 c;exact F
 | 2,c=>obtain rfl:=A67 c;exact D
 | 3,c=>obtain rfl:=A67 c;exact y
 | 4,c=>obtain rfl:=A67 c;exact t
 | 5,c=>obtain rfl:=A67 c;exact E
def Off (B:Nat)(v:Value)(b:Nat):Prop:=B<b/\v.ownBlock≠some b
theorem kpA {P:Nat->Prop}{w W:World}(h:Ac P w W:=by(repeat (first | with_reducible exact Ac.refl _ _ | with_reducible assumption | with_reducible refine Ac.trans ?_ (Ac.set (by first | omega | (intro h;exact absurd rfl h.2) | (intro h;exact absurd h.1 (A7d _)) | (simp[Off];done) | (simp[Off];omega)) _) | with_reducible refine Ac.trans ?_ (Ac.of_below (Aa _ _))))):Ac P w W:=h
theorem X4 {w:World}(h:w.grownBy w' v.ownBlock):Ac (Off B v) w w':=Ac.of_grown h λ_ a=>a.2
theorem X3 {w:World}(h:v'.ownBlock=v.ownBlock\/v'.ownBlock=some w.heap.size):∀b,b<w.heap.size->Off B v b->Off B v' b:=by
 intro b c a;refine⟨a.1,?_⟩;rcases h with h | h
 ·rw[h];exact a.2
 ·rw[h]
  intro e;simp only[A65] at e;omega
theorem Ez {P Q:Nat->Prop}{w:World}(h:Ac Q w w')(hl:∀b,b<w.heap.size->P b->Q b):Ac P w w':=⟨h.1,λb o c a=>h.2 b o (hl b a c) a⟩
theorem Acj {w:World}{es:List Stil.Elem}{e:Stil.Elem}(h:RowOf 2 (Ls (Off B v) w) xs es)(j:Ls (Off B v) w cs e)(hl:cs.length=2)(hg:w.grownBy w' v.ownBlock)(i:v'.ownBlock=v.ownBlock\/v'.ownBlock=some w.heap.size):RowOf 2 (Ls (Off B v') w') (xs++cs) (es++[e]):=by
 have c:∀cs e,Ls (Off B v) w cs e->Ls (Off B v') w' cs e:=λcs e h=>by
  have f:Ls (λb=>Off B v b/\Off B v' b) w cs e:=h.mono λb d a=>⟨a,X3 i b d a⟩
  exact(f.keep (Ez (X4 (B:=B) hg) λb _ a=>a.1)).mono λb _ a=>a.2
 exact(h.imp λcs e _=>c cs e).append (RowOf.one hl (c _ _ j))
theorem Anq {w:World}{ns:List Stil.Net}{n:Stil.Net}(h:RowOf 4 (Zv (Off B v) w) xs ns)(j:Zv (Off B v) w cs n)(hl:cs.length=4)(hg:w.grownBy w' v.ownBlock)(i:v'.ownBlock=v.ownBlock\/v'.ownBlock=some w.heap.size):RowOf 4 (Zv (Off B v') w') (xs++cs) (ns++[n]):=by
 have c:∀cs e,Zv (Off B v) w cs e->Zv (Off B v') w' cs e:=λcs e h=>by
  have f:Zv (λb=>Off B v b/\Off B v' b) w cs e:=h.mono λb d a=>⟨a,X3 i b d a⟩
  exact(f.keep (Ez (X4 (B:=B) hg) λb _ a=>a.1)).mono λb _ a=>a.2
 exact(h.imp λcs e _=>c cs e).append (RowOf.one hl (c _ _ j))
theorem Afd {w:World}{ns:List Stil.Arm}{n:Stil.Arm}(h:RowOf 6 (Ot (Off B v) w) xs ns)(j:Ot (Off B v) w cs n)(hl:cs.length=6)(hg:w.grownBy w' v.ownBlock)(i:v'.ownBlock=v.ownBlock\/v'.ownBlock=some w.heap.size):RowOf 6 (Ot (Off B v') w') (xs++cs) (ns++[n]):=by
 have c:∀cs e,Ot (Off B v) w cs e->Ot (Off B v') w' cs e:=λcs e h=>by
  have f:Ot (λb=>Off B v b/\Off B v' b) w cs e:=h.mono λb d a=>⟨a,X3 i b d a⟩
  exact(f.keep (Ez (X4 (B:=B) hg) λb _ a=>a.1)).mono λb _ a=>a.2
 exact(h.imp λcs e _=>c cs e).append (RowOf.one hl (c _ _ j))
theorem Eo {w:World}{a:List Stil.Dev}(h:J6 w g v a):Ce (λb=>g<b) w v a:=h
theorem Asm {w:World}{a:List Stil.Dev}(h:Ce (λb=>g<b) w v a):J6 w g v a:=h
theorem Qz (P:Nat->Prop)(w:World):Ce P w (.slice none 0 0) []:=⟨none,0,rfl,⟨A57 _,λ_=>rfl⟩,λi hi=>by simp at hi⟩
theorem I5 (P:Nat->Prop)(w:World):Dv P w (.slice none 0 0) []:=⟨none,0,rfl,⟨A57 _,λ_=>rfl⟩,λi hi=>by simp at hi⟩
theorem Xi (P:Nat->Prop)(w:World):Dk P w (.slice none 0 0) []:=⟨none,0,rfl,⟨A57 _,λ_=>rfl⟩,λi hi=>by simp at hi⟩
theorem Q7 (P:Nat->Prop)(w:World):Es P w (.slice none 0 0) []:=⟨none,0,rfl,⟨A57 _,λ_=>rfl⟩,λi hi=>by simp at hi⟩
def Wl (e:Stil.Elem):Prop:=(-1000000<=e.op/\e.op<=1000000)/\(∀d∈e.args,Small d)/\e.args.length<=100000
def L8:Stil.Net->Prop
 | ⟨k,e,kids⟩=>(-1000000<=k/\k<=1000000)/\Wl e/\∀p∈kids.map L8,p
theorem Pv (k:Int)(e:Stil.Elem)(kids:List Stil.Net):L8 ⟨k,e,kids⟩↔(-1000000<=k/\k<=1000000)/\Wl e/\∀x∈kids,L8 x:=by rw[L8,Stil.all_map]
def Jd:Stil.Arm->Prop
 | ⟨n,a,kids⟩=>L8 n/\(∀c∈a,Wl c)/\∀p∈kids.map Jd,p
theorem Gy (n:Stil.Net)(a:List Stil.Elem)(kids:List Stil.Arm):Jd ⟨n,a,kids⟩↔L8 n/\(∀c∈a,Wl c)/\∀x∈kids,Jd x:=by rw[Jd,Stil.all_map]
theorem Wl.wf {e:Stil.Elem}(h:Wl e):e.wf:=⟨⟨by have:=h.1.1;omega,by have:=h.1.2;omega⟩,by have:=h.2.2;omega,λd hd=>(h.2.1 d hd).fits⟩
theorem L8.wf (n:Stil.Net):L8 n->H6 n<=1000000->Akr n:=by
 induction n using Gf with
 | h k e kids d=>
  intro h b;obtain⟨i,c,f⟩:=(Pv _ _ _).1 h;rw[Ee] at b;refine(Apn _ _ _).2 ⟨⟨omz,omz⟩,c.wf,omz,λx a=>d x a (f x a) ?_⟩;have:=Ed H6 kids x a
  omega
theorem Jd.wf (n:Stil.Arm):Jd n->F5 n<=1000000->Atr n:=by
 induction n using Fz with
 | h n b kids i=>
  intro h d;obtain⟨e,f,j⟩:=(Gy _ _ _).1 h;rw[Fe] at d;have l:Fq b=b.length+(b.map N7).sum:=rfl;refine(Aql _ _ _).2 ⟨L8.wf n e omz,omz,λc k=>(f c k).wf,omz,λx a=>i x a (j x a) ?_⟩;have:=Ed F5 kids x a
  omega
end Go.Proofs.YtnpfcnolmkanfaaGreatDoor
