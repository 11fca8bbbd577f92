import Derived.Test.YtfeablpbkcgdjaaGreatDoorT10
import Derived.Test.YtfeablpbkcgdjaaGreatDoorGa
import Derived.Test.YtfeablpbkcgdjaaGreatDoorG4
import Derived.Test.YtfeablpbkcgdjaaGreatDoorGO
set_option linter.defProp false
set_option maxHeartbeats 2000000
set_option maxRecDepth 100000
namespace Go.Proofs.YtfeablpbkcgdjaaGreatDoor
open Tryz Stil Go.RowKit Go.Sort Go.BigFrame
def MK (d:Stil.B9):Tr:=⟨[d.kind,d.n,d.p],[]⟩
abbrev Hw (ds:List Stil.B9):List Tr:=ds.map MK
def Qe (e:Stil.Elem):Tr:=⟨[e.op],[Hw e.args]⟩
def Ic:Stil.B1->Tr
 | ⟨k,e,kids⟩=>⟨[k,e.op],[Hw e.args,kids.map Ic]⟩
abbrev Jp (l:List Stil.B1):List Tr:=l.map Ic
def J7:Stil.B5->Tr
 | ⟨n,a,kids⟩=>⟨[n.kind,n.one.op],[Hw n.one.args,Jp n.kids,a.map Qe,kids.map J7]⟩
abbrev Io (l:List Stil.B5):List Tr:=l.map J7
abbrev Hm (l:List Stil.Elem):List Tr:=l.map Qe
def Wj (i:Stil.Dj):Tr:=⟨[i.code,i.one.op],[Hw i.one.args]⟩
abbrev Qx (l:List Stil.Dj):List Tr:=l.map Wj
def WI (n:Stil.B1):Ic n=⟨[n.kind,n.one.op],[Hw n.one.args,Jp n.kids]⟩:=by obtain⟨_,_,_⟩:=n;rw[Ic]
def WJ (n:Stil.B5):J7 n=⟨[n.net.kind,n.net.one.op],[Hw n.net.one.args,Jp n.net.kids,Hm n.coils,Io n.kids]⟩:=by obtain⟨_,_,_⟩:=n;rw[J7]
def Wl (n:Stil.B1):(Ic n).sz=4:=by rw[WI];rfl
def Ya (n:Stil.B5):(J7 n).sz=6:=by rw[WJ];rfl
theorem dj {α:Type}{f:α->Tr}{k:Nat}(h:∀x,(f x).sz=k)(l:List α):∀t∈l.map f,t.sz=k:=λt a=>by obtain⟨x,_,rfl⟩:=List.mem_map.1 a;exact h x
section
variable {v:Value}
variable {P:Nat -> Prop}{w:World}{c:List Value}
theorem OG {e:Stil.Elem}:TrC P w (Qe e) c↔∃v,c=[.int .i64 e.op,v]/\SlC P w (Hw e.args) v:=by
 rw[Qe,G0];exact⟨λ⟨_,b,v,_,f,a,d⟩=>by cases d;cases f;exact⟨v,b,a⟩,λ⟨v,b,a⟩=>⟨[v],b,v,[],rfl,a,rfl⟩⟩
theorem yp {i:Stil.Dj}:TrC P w (Wj i) c↔∃v,c=[.int .i64 i.code, .int .i64 i.one.op,v]/\SlC P w (Hw i.one.args) v:=by
 rw[Wj,G0];exact⟨λ⟨_,b,v,_,f,a,d⟩=>by cases d;cases f;exact⟨v,b,a⟩,λ⟨v,b,a⟩=>⟨[v],b,v,[],rfl,a,rfl⟩⟩
theorem JF {n:Stil.B1}:TrC P w (Ic n) c↔∃v u,c=[.int .i64 n.kind, .int .i64 n.one.op,v,u]/\SlC P w (Hw n.one.args) v/\SlC P w (Jp n.kids) u:=by
 rw[WI,G0];exact⟨λ⟨_,d,v,_,h,a,u,_,f,b,g⟩=>by cases g;cases f;cases h;exact⟨v,u,d,a,b⟩,λ⟨v,u,d,a,b⟩=>⟨[v,u],d,v,[u],rfl,a,u,[],rfl,b,rfl⟩⟩
theorem KL {n:Stil.B5}:TrC P w (J7 n) c↔∃v u x y,c=[.int .i64 n.net.kind, .int .i64 n.net.one.op,v,u,x,y]/\SlC P w (Hw n.net.one.args) v/\SlC P w (Jp n.net.kids) u/\SlC P w (Hm n.coils) x/\SlC P w (Io n.kids) y:=by
 rw[WJ,G0];exact⟨λ⟨_,g,v,_,o,b,u,_,j,d,x,_,m,f,y,_,h,a,l⟩=>by cases l;cases h;cases m;cases j;cases o;exact⟨v,u,x,y,g,b,d,f,a⟩,λ⟨v,u,x,y,g,b,d,f,a⟩=>⟨[v,u,x,y],g,v,_,rfl,b,u,_,rfl,d,x,_,rfl,f,y,[],rfl,a,rfl⟩⟩
def SlP.slice {l:List Tr}(h:SlC P w l v):∃a c,v=.slice a l.length c/\l.length<=c/\(a=none->c=0):=by
 obtain⟨a,c,d,b,f,_⟩:=h;rw[CP] at d b;exact⟨a,c,d,b,f⟩
theorem SlP.read {α:Type}{d:α->Tr}{k:Nat}{A:Nat->Nat->α->Prop}{l:List α}(h:SlC P w (l.map d) v)(z:∀x,(d x).sz=k)(E:∀x∈l,∀b o c,TrC P w (d x) c->EL w b o c->A b o x):∃a cap,v=.slice a l.length cap/\E4 a l.length cap/\∀i (h:i<l.length),∃b o,a=some ⟨b,o,none⟩/\P b/\b<w.heap.size/\A b (o+i*k) l[i]:=by
 obtain⟨a,n,m,f,q,s⟩:=h;rw[CP,CP] at m f;refine⟨a,n,m,⟨f,q⟩,λi hi=>?_⟩;obtain⟨b,o,xs,C,t,p,D,F⟩:=s (λe=>by rw[List.map_eq_nil_iff,List.map_eq_nil_iff] at e;subst e;cases hi);obtain⟨c,g,G⟩:=X7.get D (dj z l) i (by rw[CP];exact hi);rw[EU] at g;exact⟨b,o,C,t,p,E _ (CG hi) _ _ c g λj u H=>by rw[Nat.add_assoc];exact F _ _ (G j u H)⟩
theorem Q8 {ds:List Stil.B9}(h:SlC P w (Hw ds) v):Qh P w v ds:=h.read (λ_=>rfl) λd _ b o c h a=>by
 rw[MK,G0] at h;obtain⟨_,rfl,rfl⟩:=h;exact⟨a 0 _ rfl,a 1 _ rfl,a 2 _ rfl⟩
theorem sr {es:List Stil.Elem}(h:SlC P w (Hm es) v):N7 P w v es:=h.read (λ_=>rfl) λd _ b o c h a=>by
 obtain⟨v,rfl,f⟩:=OG.1 h;exact⟨a 0 _ rfl,v,a 1 _ rfl,Q8 f⟩
theorem ZK:∀(n:Stil.B1) (b o:Nat) (c:List Value),TrC P w (Ic n) c->EL w b o c->Qd P w b o n:=by
 intro n;induction n using Fv with
 | h k e kids g=>
  intro b o c h a;obtain⟨v,u,rfl,f,d⟩:=JF.1 h;exact(LR _ _ _ _ _).2 ⟨a 0 _ rfl,a 1 _ rfl,⟨v,a 2 _ rfl,Q8 f⟩,u,a 3 _ rfl,d.read Wl g⟩
theorem Vi {l:List Stil.B1}(h:SlC P w (Jp l) v):Yo P w v l:=h.read Wl λn _=>ZK n
theorem Z2:∀(n:Stil.B5) (b o:Nat) (c:List Value),TrC P w (J7 n) c->EL w b o c->U0 P w b o n:=by
 intro n;induction n using Fb with
 | h n m kids l=>
  intro b o c h a;obtain⟨v,u,x,y,rfl,g,d,f,j⟩:=KL.1 h;exact(V2 _ _ _ _ _).2 ⟨(LR _ _ _ _ _).2 ⟨a 0 _ rfl,a 1 _ rfl,⟨v,a 2 _ rfl,Q8 g⟩,u,a 3 _ rfl,Vi d⟩,⟨x,a 4 _ rfl,sr f⟩,y,a 5 _ rfl,j.read Ya l⟩
theorem wy {l:List Stil.B5}(h:SlC P w (Io l) v):Qi P w v l:=h.read Ya λn _=>Z2 n
end
section
variable {w:World}{bs:List Nat}{ts:List (List Tr × List Value)}{i op:Int}{v u x y:Value}{ds:List Stil.B9}{ns:List Stil.B1}{es:List Stil.Elem}{ms:List Stil.B5}{c:List Value}
theorem Sv.mkE (h:Sv w bs ts)(h1:([sl (Hw ds)],[v])∈ts):Sv w bs (([Qe ⟨op,ds⟩],[.int .i64 op,v])::ts):=h.der (y:=([_],_)) λ_ a=>X7.one.2 (OG.2 ⟨v,rfl,I4.1 (a _ h1)⟩)
theorem Sv.mkI (h:Sv w bs ts)(h1:([sl (Hw ds)],[v])∈ts):Sv w bs (([Wj ⟨i,⟨op,ds⟩⟩],[.int .i64 i, .int .i64 op,v])::ts):=h.der (y:=([_],_)) λ_ a=>X7.one.2 (yp.2 ⟨v,rfl,I4.1 (a _ h1)⟩)
theorem Sv.mkN (h:Sv w bs ts)(h1:([sl (Hw ds)],[v])∈ts)(b:([sl (Jp ns)],[u])∈ts):Sv w bs (([Ic ⟨i,⟨op,ds⟩,ns⟩],[.int .i64 i, .int .i64 op,v,u])::ts):=h.der (y:=([_],_)) λ_ a=>X7.one.2 (JF.2 ⟨v,u,rfl,I4.1 (a _ h1),I4.1 (a _ b)⟩)
def Sv.mkA (h:Sv w bs ts)(h1:([sl (Hw ds)],[v])∈ts)(b:([sl (Jp ns)],[u])∈ts)(d:([sl (Hm es)],[x])∈ts)(f:([sl (Io ms)],[y])∈ts):Sv w bs (([J7 ⟨⟨i,⟨op,ds⟩,ns⟩,es,ms⟩],[.int .i64 i, .int .i64 op,v,u,x,y])::ts):=h.der (y:=([_],_)) λ_ a=>X7.one.2 (KL.2 ⟨v,u,x,y,rfl,I4.1 (a _ h1),I4.1 (a _ b),I4.1 (a _ d),I4.1 (a _ f)⟩)
theorem Sv.opN {n:Stil.B1}(h:Sv w bs ts)(h1:([Ic n],c)∈ts):∃a p b q,c=[.int .i64 n.kind, .int .i64 n.one.op, .slice a n.one.args.length p, .slice b n.kids.length q]/\Sv w bs (([sl (Hw n.one.args)],[.slice a n.one.args.length p])::([sl (Jp n.kids)],[.slice b n.kids.length q])::ts):=by
 obtain⟨v,u,g,d,f⟩:=JF.1 (X7.one.1 (h.2 _ h1));obtain⟨a,p,rfl,_⟩:=d.slice;obtain⟨b,q,rfl,_⟩:=f.slice;simp only[CP] at g d f;exact⟨a,p,b,q,g,h.1,List.forall_mem_cons.2 ⟨I4.2 d,List.forall_mem_cons.2 ⟨I4.2 f,h.2⟩⟩⟩
theorem Sv.opA {n:Stil.B5}(h:Sv w bs ts)(h1:([J7 n],c)∈ts):∃a p b q d r f s,c=[.int .i64 n.net.kind, .int .i64 n.net.one.op, .slice a n.net.one.args.length p, .slice b n.net.kids.length q, .slice d n.coils.length r, .slice f n.kids.length s]/\Sv w bs (([sl (Hw n.net.one.args)],[.slice a n.net.one.args.length p])::([sl (Jp n.net.kids)],[.slice b n.net.kids.length q])::([sl (Hm n.coils)],[.slice d n.coils.length r])::([sl (Io n.kids)],[.slice f n.kids.length s])::ts):=by
 obtain⟨v,u,x,y,o,g,j,l,m⟩:=KL.1 (X7.one.1 (h.2 _ h1));obtain⟨a,p,rfl,_⟩:=g.slice;obtain⟨b,q,rfl,_⟩:=j.slice;obtain⟨d,r,rfl,_⟩:=l.slice;obtain⟨f,s,rfl,_⟩:=m.slice;simp only[CP] at o g j l m;exact⟨a,p,b,q,d,r,f,s,o,h.1,List.forall_mem_cons.2 ⟨I4.2 g,List.forall_mem_cons.2 ⟨I4.2 j,List.forall_mem_cons.2 ⟨I4.2 l,List.forall_mem_cons.2 ⟨I4.2 m,h.2⟩⟩⟩⟩⟩
def Sv.devs (h:Sv w bs ts)(h1:([sl (Hw ds)],[v])∈ts):Ak w v ds:=(Q8 (I4.1 (h.2 _ h1))).at
def Sv.nets (h:Sv w bs ts)(h1:([sl (Jp ns)],[v])∈ts):Eo w v ns:=(Vi (I4.1 (h.2 _ h1))).at
def Sv.arms (h:Sv w bs ts)(h1:([sl (Io ms)],[v])∈ts):Qi (λ_=>True) w v ms:=(wy (I4.1 (h.2 _ h1))).mono λ_ _ _=>trivial
theorem kd3:Kd 3 49 92:=Ks (y:=24) (z:=.agg #[.int .i64 0, .int .i64 0, .int .i64 0]) AZ underlying49 AY AZ rfl
theorem kdI:Kd 3 25 66:=Ks (y:=40) (z:=.agg #[.int .i64 0, .int .i64 0, .slice none 0 0]) AZ underlying25 AY AZ rfl
theorem VH {P:Nat->Prop}:∀ds:List Stil.B9,X7 P w (Hw ds) (Bv ds)
 | []=>rfl
 | _d::ds=>⟨_,_,rfl,(G0 _ _ _ _ _).2 ⟨[],rfl,rfl⟩,VH ds⟩
theorem Sv.srcDevs (h:Sv w bs ts)(hd:Ak w v ds):IL w v (Hw ds).length (Bv ds)/\Sv w bs ((Hw ds,Bv ds)::ts):=by
 refine⟨?_,h.der (y:=(_,_)) λP _=>VH ds⟩
 .obtain⟨a,cap,rfl,d⟩:=hd
  refine⟨a,cap,by rw[CP],?_⟩;by_cases l:ds.length=0
  .obtain rfl:=List.length_eq_zero_iff.1 l
   exact .inl ⟨rfl,rfl⟩
  .obtain⟨b,o,rfl,f,_⟩:=d 0 AU
   exact .inr ⟨b,o,rfl,f,λj u q=>by
    have:=jN (b:=b) (o:=o) (λi hi=>by
     obtain⟨s,t,m,_,g⟩:=d i hi;cases m
     exact g) j u q
    rwa [JM] at this⟩
theorem Sv.copyDevs {N B:Nat}(m:TypeId)(h:Sv w (N::bs) ts)(hd:Ak w u ds)(s:w.ownsRow B 92 3 (.slice (some ⟨N,0,none⟩) 0 0) 0 [])(D:∀b∈bs,b<B)(t:B<=w.heap.size)(hl:ds.length<=1900000):
  ∃g d,(Builtin.append_ #[49,49] m #[.slice (some ⟨N,0,none⟩) 0 0,u]).run prog w=.ok g d/\∃a n,g=.slice a ds.length n/\Sv d bs (([sl (Hw ds)],[.slice a ds.length n])::ts)/\w.grownBy d (some N):=by
 obtain⟨z,q⟩:=h.srcDevs hd;obtain⟨g,d,A,a,n,o,j,l,C,-⟩:=Sv.appM (f:=MK) (L:=[]) (v:=.slice (some ⟨N,0,none⟩) 0 0) (bs:=bs) m kd3 q.nil (.head _) (.tail _ (.head _)) (λ_=>rfl) z s t Ax;rw[C3] at o j l;exact⟨g,d,A,a,n,o,(l.ice (.head _) (by rw[CP];exact j) D).sub (λ_ h=>h) BB,C⟩
end
variable {Low i o1 o2 o3 o4:Nat}{W:World}{bs:List Nat}{r:Option Nat}{v v1 v2 v3 v4 v5 x1 x2 x3 x4:Value}
def Ci {p:Prop}(h:p):Hid p:=h
def Jd {w:World}{b:Nat}(h:Below w.heap.size w W)(a:b<w.heap.size):W.cell? ⟨b,i,none⟩=w.cell? ⟨b,i,none⟩:=h.cell (p:=⟨b,i,none⟩) a
def ey {w:World}{b:Nat}(h:Below w.heap.size w W)(a:b<w.heap.size):W.frozen? ⟨b,i,none⟩=w.frozen? ⟨b,i,none⟩:=h.frozen (p:=⟨b,i,none⟩) a
def GM {w:World}{b:Nat}(h:Below w.heap.size w W)(a:b<w.heap.size):b<W.heap.size:=B8 a h.size
def BV {b:Nat}(h:W.cell? ⟨b,i,none⟩=some v:=by(refine(Jd (by with_reducible assumption) BH).trans ?_;exact BN))(k:W.frozen? ⟨b,i,none⟩=false:=by(refine(ey (by with_reducible assumption) BH).trans ?_;exact ffA)):QbC W b i v:=⟨h,k⟩
def qcN {b:Nat}(h:W.cell? ⟨b,i,none⟩=some v:=by exact BN)(k:W.frozen? ⟨b,i,none⟩=false:=by exact ffA):QbC W b i v:=⟨h,k⟩
def qN2 {b:Nat}{v0:Value}(hz:b<W.heap.size:=by exact BH)(h0:QbC W b 0 v0:=by exact qcN)(h1:QbC W b 1 v1:=by exact qcN):EA W b v0 v1:=⟨hz,h0.1,h0.2,h1.1,h1.2⟩
theorem EA.gr {w:World}{b:Nat}{v0:Value}(h:EA w b v0 v1)(hg:w.grownBy W r)(hr:r≠some b):EA W b v0 v1:=by
 obtain⟨a,l,j,m,g⟩:=h;have f:∀o,W.cell? ⟨b,o,none⟩=w.cell? ⟨b,o,none⟩:=λo=>World.cell?_of_block (hg.block b a λe=>hr e.symm)
 have d:∀o,W.frozen? ⟨b,o,none⟩=w.frozen? ⟨b,o,none⟩:=λo=>World.frozen?_of_block (hg.block b a λe=>hr e.symm)
 exact⟨B8 a hg.size,(f 0).trans l,(d 0).trans j,(f 1).trans m,(d 1).trans g⟩
theorem EA.bel {w:World}{b:Nat}{v0:Value}(h:EA w b v0 v1)(a:Below w.heap.size w W):EA W b v0 v1:=h.gr (grown_below a none) (λe=>by cases e)
def qB4 {b:Nat}{v0:Value}(hz:b<W.heap.size:=by(refine GM (by with_reducible assumption) ?_;exact BH))(h0:QbC W b 0 v0:=by exact BV)(h1:QbC W b 1 v1:=by exact BV)(h2:QbC W b 2 v2:=by exact BV)(h3:QbC W b 3 v3:=by exact BV):CW W b v0 v1 v2 v3:=⟨hz,h0.1,h0.2,h1.1,h1.2,h2.1,h2.2,h3.1,h3.2⟩
def qN4 {b:Nat}{v0:Value}(hz:b<W.heap.size:=by exact BH)(h0:QbC W b 0 v0:=by exact qcN)(h1:QbC W b 1 v1:=by exact qcN)(h2:QbC W b 2 v2:=by exact qcN)(h3:QbC W b 3 v3:=by exact qcN):CW W b v0 v1 v2 v3:=⟨hz,h0.1,h0.2,h1.1,h1.2,h2.1,h2.2,h3.1,h3.2⟩
theorem CW.gr {w:World}{b:Nat}{v0:Value}(h:CW w b v0 v1 v2 v3)(hg:w.grownBy W r)(hr:r≠some b):CW W b v0 v1 v2 v3:=by
 obtain⟨f,m,s,p,g,t,q,l,j⟩:=h;have d:∀o,W.cell? ⟨b,o,none⟩=w.cell? ⟨b,o,none⟩:=λo=>World.cell?_of_block (hg.block b f λe=>hr e.symm)
 have a:∀o,W.frozen? ⟨b,o,none⟩=w.frozen? ⟨b,o,none⟩:=λo=>World.frozen?_of_block (hg.block b f λe=>hr e.symm)
 exact⟨B8 f hg.size,(d 0).trans m,(a 0).trans s,(d 1).trans p,(a 1).trans g,(d 2).trans t,(a 2).trans q,(d 3).trans l,(a 3).trans j⟩
theorem CW.bel {w:World}{b:Nat}{v0:Value}(h:CW w b v0 v1 v2 v3)(a:Below w.heap.size w W):CW W b v0 v1 v2 v3:=h.gr (grown_below a none) (λe=>by cases e)
def qB6 {b:Nat}{v0:Value}(hz:b<W.heap.size:=by(refine GM (by with_reducible assumption) ?_;exact BH))(h0:QbC W b 0 v0:=by exact BV)(h1:QbC W b 1 v1:=by exact BV)(h2:QbC W b 2 v2:=by exact BV)(h3:QbC W b 3 v3:=by exact BV)(h4:QbC W b 4 v4:=by exact BV)(h5:QbC W b 5 v5:=by exact BV):CU W b v0 v1 v2 v3 v4 v5:=⟨hz,h0.1,h0.2,h1.1,h1.2,h2.1,h2.2,h3.1,h3.2,h4.1,h4.2,h5.1,h5.2⟩
def qN6 {b:Nat}{v0:Value}(hz:b<W.heap.size:=by exact BH)(h0:QbC W b 0 v0:=by exact qcN)(h1:QbC W b 1 v1:=by exact qcN)(h2:QbC W b 2 v2:=by exact qcN)(h3:QbC W b 3 v3:=by exact qcN)(h4:QbC W b 4 v4:=by exact qcN)(h5:QbC W b 5 v5:=by exact qcN):CU W b v0 v1 v2 v3 v4 v5:=⟨hz,h0.1,h0.2,h1.1,h1.2,h2.1,h2.2,h3.1,h3.2,h4.1,h4.2,h5.1,h5.2⟩
theorem CU.gr {w:World}{b:Nat}{v0:Value}(h:CU w b v0 v1 v2 v3 v4 v5)(hg:w.grownBy W r)(hr:r≠some b):CU W b v0 v1 v2 v3 v4 v5:=by
 obtain⟨f,q,A,s,g,C,t,l,j,m,p,D,z⟩:=h;have d:∀o,W.cell? ⟨b,o,none⟩=w.cell? ⟨b,o,none⟩:=λo=>World.cell?_of_block (hg.block b f λe=>hr e.symm)
 have a:∀o,W.frozen? ⟨b,o,none⟩=w.frozen? ⟨b,o,none⟩:=λo=>World.frozen?_of_block (hg.block b f λe=>hr e.symm)
 exact⟨B8 f hg.size,(d 0).trans q,(a 0).trans A,(d 1).trans s,(a 1).trans g,(d 2).trans C,(a 2).trans t,(d 3).trans l,(a 3).trans j,(d 4).trans m,(a 4).trans p,(d 5).trans D,(a 5).trans z⟩
theorem CU.bel {w:World}{b:Nat}{v0:Value}(h:CU w b v0 v1 v2 v3 v4 v5)(a:Below w.heap.size w W):CU W b v0 v1 v2 v3 v4 v5:=h.gr (grown_below a none) (λe=>by cases e)
def Sv.set4 {w:World}{ts:List (List Tr × List Value)}{b:Nat}(h:Sv w bs ts)(a:b∈bs):Sv ((((w.setCell ⟨b,o1,none⟩ x1).setCell ⟨b,o2,none⟩ x2).setCell ⟨b,o3,none⟩ x3).setCell ⟨b,o4,none⟩ x4) bs ts:=(((h.set a).set a).set a).set a
def FU (n:Stil.B1)(w:World)(bs:List Nat)(ts:List (List Tr × List Value))(e:Ending)(w':World):Prop:=∃a p b q,e=.returned (.agg #[.int .i64 n.kind, .int .i64 n.one.op, .slice a n.one.args.length p, .slice b n.kids.length q])/\Sv w' bs (([Ic n],[.int .i64 n.kind, .int .i64 n.one.op, .slice a n.one.args.length p, .slice b n.kids.length q])::ts)/\Below w.heap.size w w'
def FI {α:Type}(f:α->Tr)(k e:Nat)(L:List α)(w:World)(bs:List Nat)(ts:List (List Tr × List Value))(r:Ending)(w':World):Prop:=∃a n xs,r=.returned (.slice a L.length n)/\w'.ownsRow w.heap.size e k (.slice a L.length n) L.length xs/\Sv w' (ob (.slice a L.length n)++bs) ((L.map f,xs)::ts)/\Below w.heap.size w w'
def G4 (F:FuncId)(x y:Stil.B1):Prop:=∀(a b:Value) (w:World) (bs:List Nat) (ts:List (List Tr × List Value)),Sv w bs ts->Ak w a x.one.args->Eo w b x.kids->Calls prog F #[.agg #[.int .i64 x.kind, .int .i64 x.one.op,a,b]] w (FU y w bs ts)
def ff (n:Stil.B5)(w:World)(bs:List Nat)(ts:List (List Tr × List Value))(e:Ending)(w':World):Prop:=∃a p b q d r f s,e=.returned (.agg #[.int .i64 n.net.kind, .int .i64 n.net.one.op, .slice a n.net.one.args.length p, .slice b n.net.kids.length q, .slice d n.coils.length r, .slice f n.kids.length s])/\Sv w' bs (([J7 n],[.int .i64 n.net.kind, .int .i64 n.net.one.op, .slice a n.net.one.args.length p, .slice b n.net.kids.length q, .slice d n.coils.length r, .slice f n.kids.length s])::ts)/\Below w.heap.size w w'
def K1 (F:FuncId)(x y:Stil.B5):Prop:=∀(a b f d:Value) (w:World) (bs:List Nat) (ts:List (List Tr × List Value)),Sv w bs ts->Ak w a x.net.one.args->Eo w b x.net.kids->F6 w f x.coils->Dc w d x.kids->Calls prog F #[.agg #[.int .i64 x.net.kind, .int .i64 x.net.one.op,a,b,f,d]] w (ff y w bs ts)
def Sv.set6 {w:World}{ts:List (List Tr × List Value)}{b o5 o6:Nat}{x5 x6:Value}(h:Sv w bs ts)(a:b∈bs):Sv ((((((w.setCell ⟨b,o1,none⟩ x1).setCell ⟨b,o2,none⟩ x2).setCell ⟨b,o3,none⟩ x3).setCell ⟨b,o4,none⟩ x4).setCell ⟨b,o5,none⟩ x5).setCell ⟨b,o6,none⟩ x6) bs ts:=((h.set4 a).set a).set a
theorem Sv.kidsOf {w:World}{ts:List (List Tr × List Value)}{n:Stil.B1}{u x y:Value}(h:Sv w bs ts)(h1:([Ic n],[x,y,v,u])∈ts):∃a,IL w u (Jp n.kids).length a/\Sv w bs ((Jp n.kids,a)::ts):=by
 obtain⟨l,m,f,_,b⟩:=JF.1 (X7.one.1 (h.2 _ h1));cases f;obtain⟨a,j,d⟩:=(show Sv w bs (([sl (Jp n.kids)],[u])::ts) from⟨h.1,List.forall_mem_cons.2 ⟨I4.2 b,h.2⟩⟩).src (.head _);exact⟨a,j,d.sub (λ_ h=>h) λz g=>(List.mem_cons.1 g).elim (λh=>h ▸ .head _) λh=>.tail _ (.tail _ h)⟩
structure P6 where
 kind:Int
 op:Int
 ds:List Stil.B9
 av:Value
 kv:Value
 kids:List P6
theorem Wt (P:P6->Prop)(h:∀k op ds a b kids,(∀x∈kids,P x)->P ⟨k,op,ds,a,b,kids⟩):∀n,P n
 | ⟨k,op,ds,a,b,kids⟩=>h k op ds a b kids (λx _=>Wt P h x)
def P6.net:P6->Stil.B1
 | ⟨k,op,ds,_,_,kids⟩=>⟨k,⟨op,ds⟩,kids.map P6.net⟩
theorem P6.net_eq (m:P6):m.net=⟨m.kind,⟨m.op,m.ds⟩,m.kids.map P6.net⟩:=by obtain⟨k,op,ds,av,kv,kids⟩:=m;rw[P6.net]
structure FR where
 op:Int
 ds:List Stil.B9
 av:Value
def FR.elem (m:FR):Stil.Elem:=⟨m.op,m.ds⟩
structure Oa where
 net:P6
 cv:Value
 coils:List FR
 kv:Value
 kids:List Oa
theorem W6 (P:Oa->Prop)(h:∀n d a b kids,(∀x∈kids,P x)->P ⟨n,d,a,b,kids⟩):∀n,P n
 | ⟨n,d,a,b,kids⟩=>h n d a b kids (λx _=>W6 P h x)
def Oa.arm:Oa->Stil.B5
 | ⟨n,_,a,_,kids⟩=>⟨n.net,a.map FR.elem,kids.map Oa.arm⟩
theorem Oa.arm_eq (m:Oa):m.arm=⟨m.net.net,m.coils.map FR.elem,m.kids.map Oa.arm⟩:=by obtain⟨n,cv,a,kv,kids⟩:=m;rw[Oa.arm]
def Uz (w:World)(b o:Nat)(t:P6):Prop:=w.cell? ⟨b,o,none⟩=some (.int .i64 t.kind)/\w.cell? ⟨b,o+1,none⟩=some (.int .i64 t.op)/\w.cell? ⟨b,o+2,none⟩=some t.av/\w.cell? ⟨b,o+3,none⟩=some t.kv
def Vu (w:World)(b o:Nat)(m:Oa):Prop:=Uz w b o m.net/\w.cell? ⟨b,o+4,none⟩=some m.cv/\w.cell? ⟨b,o+5,none⟩=some m.kv
def SlR {α:Type}(Low k:Nat)(A:Nat->Nat->α->Prop)(v:Value)(l:List α):Prop:=∃(a:Option Addr) (cap:Nat),v=.slice a l.length cap/\E4 a l.length cap/\∀i (h:i<l.length),∃b o,a=some ⟨b,o,none⟩/\b<Low/\A b (o+i*k) l[i]
def NOk (Low:Nat)(w:World):P6->Prop
 | ⟨_,_,ds,a,b,kids⟩=>Ak w a ds/\SlR Low 4 (Uz w) b kids/\∀p∈kids.map (NOk Low w),p
theorem JK {w:World}{m:P6}:NOk Low w m↔Ak w m.av m.ds/\SlR Low 4 (Uz w) m.kv m.kids/\∀x∈m.kids,NOk Low w x:=by obtain⟨k,op,ds,a,b,kids⟩:=m;rw[NOk,Stil.all_map]
def MO (w:World)(b o:Nat)(e:FR):Prop:=w.cell? ⟨b,o,none⟩=some (.int .i64 e.op)/\w.cell? ⟨b,o+1,none⟩=some e.av
def VOk (Low:Nat)(w:World):Oa->Prop
 | ⟨n,d,a,b,kids⟩=>NOk Low w n/\(SlR Low 2 (MO w) d a/\∀e∈a,Ak w e.av e.ds)/\SlR Low 6 (Vu w) b kids/\∀p∈kids.map (VOk Low w),p
theorem MA {w:World}{m:Oa}:VOk Low w m↔NOk Low w m.net/\(SlR Low 2 (MO w) m.cv m.coils/\∀e∈m.coils,Ak w e.av e.ds)/\SlR Low 6 (Vu w) m.kv m.kids/\∀x∈m.kids,VOk Low w x:=by obtain⟨n,d,a,b,kids⟩:=m;rw[VOk,Stil.all_map]
theorem SY {α β:Type}{Q:Nat->β->α->Prop}:∀(l:List α) (n:Nat),(∀i (h:i<l.length),∃m,Q (n+i) m l[i])->∃ms:List β,ms.length=l.length/\∀i (d:i<ms.length) (f:i<l.length),Q (n+i) ms[i] l[i]
 | [],_,_=>⟨[],rfl,λi h=>by cases h⟩
 | x::l,n,h=>by
  obtain⟨m,g⟩:=h 0 AW;obtain⟨ms,d,f⟩:=SY l (n+1) λi hi=>by have:=h (i+1) Ax;rwa [show n+(i+1)=n+1+i by omega] at this
  refine⟨m::ms,by simp[d],λi a b=>?_⟩;cases i with
  | zero=>exact g
  | succ i=>have:=f i (by simpa using a) (by simpa using b);rwa [show n+1+i=n+(i+1) by omega] at this
section
variable {v:Value}
variable {P:Nat -> Prop}{w:World}
theorem SlR.of {α β:Type}{q:α->Tr}{k:Nat}{f:β->α}{A:Nat->Nat->β->Prop}{B:β->Prop}{l:List α}(h:SlC P w (l.map q) v)(C:∀x,(q x).sz=k)(F:∀x∈l,∀b o c,TrC P w (q x) c->EL w b o c->∃m,f m=x/\A b o m/\B m):∃ms:List β,ms.map f=l/\SlR w.heap.size k A v ms/\∀m∈ms,B m:=by
 obtain⟨a,cap,G,H,E⟩:=h.read (A:=λb o x=>∃m,f m=x/\A b o m/\B m) C F;obtain⟨ms,s,g⟩:=SY (Q:=λi m x=>f m=x/\B m/\∃b o,a=some ⟨b,o,none⟩/\b<w.heap.size/\A b (o+i*k) m) l 0 λi hi=>by
  obtain⟨b,o,e,_,z,m,d,t,j⟩:=E i hi;exact⟨m,d,j,b,o,e,z,by rwa [Cd]⟩
 refine⟨ms,List.ext_getElem (by rw[CP,s]) λi a b=>?_,⟨a,cap,by rw[s];exact G,by rw[s];exact H,λi hi=>?_⟩,λm D=>?_⟩
 .rw[EU];exact(g i (by simpa using a) b).1
 .obtain⟨_,_,b,o,d,t,j⟩:=g i hi AU
  exact⟨b,o,d,t,by rwa [Cd] at j⟩
 .obtain⟨i,hi,rfl⟩:=List.mem_iff_getElem.1 D
  exact(g i hi AU).2.1
theorem ZJ:∀(n:Stil.B1) (b o:Nat) (c:List Value),TrC P w (Ic n) c->EL w b o c->∃m:P6,m.net=n/\Uz w b o m/\NOk w.heap.size w m:=by
 intro n;induction n using Fv with
 | h k e kids p=>
  intro b o c h a;obtain⟨v,u,rfl,g,d⟩:=JF.1 h;obtain⟨ms,f,j,l⟩:=SlR.of d Wl p;refine⟨⟨k,e.op,e.args,v,u,ms⟩,by rw[P6.net_eq,f],⟨a 0 _ rfl,a 1 _ rfl,a 2 _ rfl,a 3 _ rfl⟩,JK.2 ⟨(Q8 g).at,j,l⟩⟩
theorem Z1:∀(n:Stil.B5) (b o:Nat) (c:List Value),TrC P w (J7 n) c->EL w b o c->∃m:Oa,m.arm=n/\Vu w b o m/\VOk w.heap.size w m:=by
 intro n;induction n using Fb with
 | h n L kids K=>
  intro b o c h a;obtain⟨v,u,x,y,rfl,d,g,j,t⟩:=KL.1 h;obtain⟨ns,l,q,I⟩:=SlR.of g Wl λx _=>ZJ x
  obtain⟨F,p,z,s⟩:=SlR.of (f:=FR.elem) (A:=MO w) (B:=λe=>Ak w e.av e.ds) (k:=2) j (λ_=>rfl) λe _ b o c h a=>by
   obtain⟨v,rfl,d⟩:=OG.1 h;exact⟨⟨e.op,e.args,v⟩,rfl,⟨a 0 _ rfl,a 1 _ rfl⟩,(Q8 d).at⟩
  obtain⟨D,H,C,E⟩:=SlR.of t Ya K;obtain⟨G,⟨no,J⟩,M⟩:=n;refine⟨⟨⟨G,no,J,v,u,ns⟩,x,F,y,D⟩,by rw[Oa.arm_eq,P6.net_eq];simp only[l,p,H],⟨⟨a 0 _ rfl,a 1 _ rfl,a 2 _ rfl,a 3 _ rfl⟩,a 4 _ rfl,a 5 _ rfl⟩,MA.2 ⟨JK.2 ⟨(Q8 d).at,q,I⟩,⟨z,s⟩,C,E⟩⟩
theorem Sv.vals {bs:List Nat}{ts:List (List Tr × List Value)}{L:List Stil.B5}(h:Sv w bs ts)(h1:([sl (Io L)],[v])∈ts):∃ms:List Oa,ms.map Oa.arm=L/\SlR w.heap.size 6 (Vu w) v ms/\∀m∈ms,VOk w.heap.size w m:=
 SlR.of (I4.1 (h.2 _ h1)) Ya λx _=>Z1 x
end
variable {B O e k n:Nat}{bs:List Nat}{v x:Value}{xs:List Value}
theorem yS (es:List Stil.Elem)(v:Value)(w:World)(bs:List Nat)(ts:List (List Tr × List Value))(h:Sv w bs ts)(ad:F6 w v es)(hl:es.length<=999999)(V:∀x∈es,x.fits):
  Calls prog 52 #[v] w (FI Qe 2 51 es w bs ts):=by
 obtain⟨a,cap,rfl,X⟩:=ad;have HA:=Ci X;have HF:=Ci V;have ak:=h.1;have ae:=h.box (.cells #[] 51);clear X V h;go_enter func52,ntmps52
 go_wp2
 go_loopw [3,4] (λd i wr=>∃(j:Nat) (L:List Stil.Elem) (q:Option Addr) (m:Nat) (xs:List Value),j<=es.length/\i=.int .i64 j/\Hid (L=es.take j)/\L.length<=999999/\d=.slice q L.length m/\wr.ownsRow w.heap.size 51 2 (.slice q L.length m) L.length xs/\Sv wr (ob (.slice q L.length m)++bs) ((Hm L,xs)::ts)/\Below w.heap.size w wr) (λ_ i _=>es.length - (intOf i).toNat)
 case atStart=>
  refine⟨0,[],some ⟨w.heap.size,0,none⟩,0,[],AU,rfl,rfl,AW,rfl,?_,ae.nil,AX⟩;have:=World.ownsRow_lit (base:=w.heap.size) (e:=51) (size:=2) w #[] 0 AW BI rfl
  simpa using this
 case round=>
  obtain⟨j,L,q,m,xs,hj,rfl,J,iG,rfl,z,hS,f⟩:=hrel;by_cases E:j<es.length
  .obtain⟨b,o,rfl,Q,T⟩:=HA j E
   obtain⟨s,av,x1,D⟩:=T.below f Q;have ab:es[j].args.length<=1048576:=(HF _ (CG E)).2.1;have G:Hid (es.take (j+1)=L++[es[j]]):=by show _=_;rw[J.out];exact DO E
   have Z:(L++[es[j]]).length<=999999:=by rw[<-G.out,Fo];omega
   obtain⟨x,U⟩:∃x,x=es[j]:=⟨_,rfl⟩
   rw[<-U] at s D G ab Z;have eU:=Ci (D.below (Aa wr (.cells #[] 92)).drew);obtain⟨F,C,rfl,-⟩:=D;have l:b<wr.heap.size:=B8 Q f.size;have af:Hid (((wr.alloc (.cells #[] 92)).drew).ownsRow wr.heap.size 92 3 (.slice (some ⟨wr.heap.size,0,none⟩) 0 0) 0 []):=by
    have:=World.ownsRow_lit (base:=wr.heap.size) (e:=92) (size:=3) wr #[] 0 (B7 _) BI rfl
    have h2:(wr.alloc (.cells #[] 92)).ownsRow wr.heap.size 92 3 (.slice (some ⟨wr.heap.size,0,none⟩) 0 0) 0 []:=by simpa using this
    exact h2
   have gX:=Ci (λW (hg:((wr.alloc (.cells #[] 92)).drew).grownBy W (some wr.heap.size))=>(Aa wr (.cells #[] 92)).drew.grown hg AW (λk H=>by cases H;exact B7 _));have al:(0:Int)<=(j:Int):=AU
   have ai:(j:Int)<(es.length:Int):=AU
   clear U T;go_upto_region 5 with fail
   go_region_held3 (λY=>(Y.cell? ⟨b,o+j*2,none⟩=some (.int .i64 x.op)/\Y.cell? ⟨b,o+j*2+1,none⟩=some (.slice F x.args.length C))) (first | with_reducible assumption | with_reducible exact⟨Dx.trans s,Dx.trans x1⟩ | with_reducible exact⟨Dx.trans ((Bz l).trans s),Dx.trans ((Bz l).trans x1)⟩ | with_reducible exact⟨(Bz I).trans A.1,(Bz I).trans A.2⟩ | skip) (first | (refine I9 rfl rfl (Sv.copyDevs (N:=wr.heap.size) (B:=wr.heap.size) _ (hS.box (.cells #[] 92)).drew eU.out af.out (λb f=>hS.1 b f) (by simp) BS) rfl rfl ?_;rintro v5 t ⟨a5,c5,rfl,ah,aa⟩;have g:=gX.out t aa;have A:(t.cell? ⟨b,o+j*2,none⟩=some (.int .i64 x.op)/\t.cell? ⟨b,o+j*2+1,none⟩=some (.slice F x.args.length C)):=⟨(g.cell (p:=⟨b,o+j*2,none⟩) l).trans s,(g.cell (p:=⟨b,o+j*2+1,none⟩) l).trans x1⟩;have I:b<t.heap.size:=B8 l g.size) | (go_loud (refine I9 rfl rfl (Sv.pushM (x:=x) (c:=[.int .i64 x.op, .slice a5 x.args.length c5]) _ kd2 (ah.mkE (op:=x.op) (ds:=x.args) (.head _)) (.tail _ (.tail _ (.head _))) (.head _) (λ_=>rfl) (ownsRow_below z g) (CB f.size g.size) BS) rfl rfl ?_;rintro v6 M ⟨a6,c6,rfl,ag,ac,S,-⟩;have K:=S.block b I (λe=>by have:=(z.lt _ e.symm).1;omega);have aj:(M.cell? ⟨b,o+j*2,none⟩=some (.int .i64 x.op)/\M.cell? ⟨b,o+j*2+1,none⟩=some (.slice F x.args.length C)):=⟨(World.cell?_of_block K).trans A.1,(World.cell?_of_block K).trans A.2⟩)))
   all_goals
    go_wp2
    refine⟨⟨j+1,L++[x],a6,c6,_,AU,by go_num,G.symm,Z,AW,ag,ac.sub (λ_ h=>h) BB,?_⟩,by simp[intOf];omega⟩;exact(Au f g).grown S (CB f.size g.size) (λk H=>(z.lt _ H).1)
  .obtain rfl:j=es.length:=by omega
   have R:=J.out;rw[IY] at R;subst R;clear J
   go_wp2
   go_ret;exact⟨q,m,xs,rfl,z,hS,f⟩
theorem PL {W:World}{p q:Addr}:(W.setCell p v).frozen? q=W.frozen? q:=by simp[go_sem]
structure MI where
 code:Int
 e:FR
def MI.val (m:MI):Value:=.agg #[.int .i64 m.code, .int .i64 m.e.op,m.e.av]
def MI.inst (m:MI):Stil.Dj:=⟨m.code,m.e.elem⟩
def mi0 (k:Int):MI:=⟨k,⟨0,[], .slice none 0 0⟩⟩
def MI.cells (m:MI):List Value:=[.int .i64 m.code, .int .i64 m.e.op,m.e.av]
def Ns (l:List MI):List Value:=l.flatMap MI.cells
def kc (l:List MI)(m:MI):Ns (l++[m])=Ns l++m.cells:=by simp[Ns]
def zNa {p:Prop}(h:p:=by
 simp only[Dm,C2] at h ⊢;rcases h with h | h | h
 .exact .inr (.inl h)
 .exact .inl h
 .exact .inr (.inr h)):p:=h
def PW {b:Nat}{A:List Nat}(h:b∈A++O::bs):b∈O::(A++bs):=by
 exact zNa
def PG (n:Stil.B1):(⟨n.kind,⟨n.one.op,n.one.args⟩,n.kids⟩:Stil.B1)=n:=by obtain⟨_,_,_⟩:=n;rfl
def own_ne {w:World}(h:w.ownsRow B e k v n xs){b:Nat}(a:w.heap.size<=b):v.ownBlock≠some b:=λe=>by have:=(h.lt _ e).2;omega
def D6 {w:World}{b o:Nat}(h:w.ownsRow B e k v n xs)(a:v.ownBlock≠some b):(w.setCell ⟨b,o,none⟩ x).ownsRow B e k v n xs:=h.kept (Q4 w b o x) (.inr a)
theorem Sv.armOf {w:World}{ts us:List (List Tr × List Value)}{N:Stil.B1}{C:List Stil.Elem}{ks:List Stil.B5}{u y:Value}{R:Nat}(h:Sv w (O::(ob x++R::bs)) us)(h1:(Hm C,xs)∈us)(j:([Ic N],[.int .i64 N.kind, .int .i64 N.one.op,v,u])∈us)(f:([sl (Io ks)],[y])∈us)(t:w.ownsRow B 51 2 x C.length xs)(o:R<B)(d:∀b∈bs,b<B)(m:∀z∈ts,z∈us):Sv w (R::bs) (([J7 ⟨N,C,ks⟩],[.int .i64 N.kind, .int .i64 N.one.op,v,u,x,y])::ts):=by
 obtain⟨i,⟨op,ds⟩,ns⟩:=N;have hi:=Sv.ice (bs:=R::bs) (h.sub (λb d=>.tail _ d) λ_ h=>h) h1 (by rw[CP];exact t) (List.forall_mem_cons.2 ⟨o,d⟩);obtain⟨a,p,b,q,l,g⟩:=hi.opN (.tail _ j);cases l;exact(g.mkA (i:=i) (op:=op) (ds:=ds) (ns:=ns) (es:=C) (ms:=ks) (.head _) (.tail _ (.head _)) (.tail _ (.tail _ (.head _))) (.tail _ (.tail _ (.tail _ f)))).sub (λ_ h=>h) (List.forall_mem_cons.2 ⟨.head _,λz s=>.tail _ (.tail _ (.tail _ (.tail _ (m z s))))⟩)
