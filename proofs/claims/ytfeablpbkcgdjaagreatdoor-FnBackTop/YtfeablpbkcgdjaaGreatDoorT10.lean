import Derived.Test.YtfeablpbkcgdjaaGreatDoorD9
import Derived.Test.YtfeablpbkcgdjaaGreatDoorGU
set_option linter.defProp false
namespace Go.Proofs.YtfeablpbkcgdjaaGreatDoor
open Tryz Go.RowKit Go.Sort Go.BigFrame
abbrev FK:=Nat × (Nat->Option (Nat × Nat × Nat × Nat))
abbrev Ia:=Nat × Nat × List Value
abbrev DC:=List (Nat × List Value)
def SlT (S:FK)(k s:Nat)(v:Value):Prop:=∃a n c,v=.slice a n c/\n<=c/\n<=S.1/\(a=none->c=0)/\(0<n->∃b o m r,a=some ⟨b,o,none⟩/\n<=m/\r<=s/\S.2 b=some (k,r,m,o))
abbrev Sm (x:Int):Prop:=-1000000<=x/\x<=1000000
def ClT (S:FK)(k s:Nat)(cs:List Value):Prop:=
 (k=3/\∃d:Stil.B9,cs=[.int .i64 d.kind, .int .i64 d.n, .int .i64 d.p]/\Small d)\/
 (k=2/\∃op v,cs=[.int .i64 op,v]/\Sm op/\SlT S 3 0 v/\0<s)\/
 (k=4/\∃i op v r u,cs=[.int .i64 i, .int .i64 op,v,u]/\Sm i/\Sm op/\SlT S 3 0 v/\SlT S 4 r u/\r<s)\/
 (k=6/\∃i op v p u q c r d,cs=[.int .i64 i, .int .i64 op,v,u,c,d]/\Sm i/\Sm op/\SlT S 3 0 v/\SlT S 4 p u/\SlT S 2 q c/\SlT S 6 r d/\p+q+r+1<s)\/
 ∃j v,k=j+10/\cs=[v]/\SlT S j s v
def Up (S S':FK):Prop:=S.1<=S'.1/\∀b x,S.2 b=some x->S'.2 b=some x
section
variable {c d u:Value}{i op:Int}{r:Nat}
variable {S S' : FK}{k s : Nat}{v : Value}{cs : List Value}
theorem SlT.up (h:SlT S k s v)(u:Up S S'):SlT S' k s v:=
 let ⟨a,n,c,p,A,f,C,j⟩:=h
 ⟨a,n,c,p,A,CB f u.1,C,λh=>let ⟨b,o,m,r,x,y,q,z⟩:=j h;⟨b,o,m,r,x,y,q,u.2 _ _ z⟩⟩
theorem SlT.grew {t:Nat}(h:SlT S k s v)(p:s<=t):SlT S k t v:=
 let ⟨a,n,c,q,C,f,D,j⟩:=h
 ⟨a,n,c,q,C,f,D,λh=>let ⟨b,o,m,r,x,y,A,z⟩:=j h;⟨b,o,m,r,x,y,CB A p,z⟩⟩
theorem ClT.up (h:ClT S k s cs)(u:Up S S'):ClT S' k s cs:=by
 rcases h with h | ⟨h,op,v,y,f,b,z⟩ | ⟨h,i,op,v,r,x,y,f,b,z,A,C⟩ | ⟨h,i,op,v,p,x,q,c,r,d,y,f,b,z,A,C,D,E⟩ | ⟨j,v,y,f,b⟩
 .exact .inl h
 .exact .inr (.inl ⟨h,op,v,y,f,b.up u,z⟩)
 .exact .inr (.inr (.inl ⟨h,i,op,v,r,x,y,f,b,z.up u,A.up u,C⟩))
 .exact .inr (.inr (.inr (.inl ⟨h,i,op,v,p,x,q,c,r,d,y,f,b,z.up u,A.up u,C.up u,D.up u,E⟩)))
 .exact .inr (.inr (.inr (.inr ⟨j,v,y,f,b.up u⟩)))
theorem ClT.cells (h:ClT S k s cs)(f:k<10):cs.length=k/\∀u∈cs,u.oneCell'=true:=by
 rcases h with⟨rfl,d,rfl,_⟩ | ⟨rfl,op,v,rfl,_,⟨_,_,_,rfl,_⟩,_⟩ | ⟨rfl,i,op,v,r,x,rfl,_,_,⟨_,_,_,rfl,_⟩,⟨_,_,_,rfl,_⟩,_⟩ | ⟨rfl,i,op,v,p,x,q,c,r,d,rfl,_,_,⟨_,_,_,rfl,_⟩,⟨_,_,_,rfl,_⟩,⟨_,_,_,rfl,_⟩,⟨_,_,_,rfl,_⟩,_⟩ | ⟨j,v,z,y,b⟩
 all_goals first | exact⟨rfl,by simp[Value.oneCell']⟩ | omega
theorem ClT.sl (h:ClT S (k+10) s [v]):SlT S k s v:=by
 rcases h with⟨h,_⟩ | ⟨h,_⟩ | ⟨h,_⟩ | ⟨h,_⟩ | ⟨j,u,q,f,b⟩
 .omega
 .omega
 .omega
 .omega
 .cases f
  obtain rfl:k=j:=AU
  exact b
def SlT.cl (h:SlT S k s v):ClT S (k+10) s [v]:=.inr (.inr (.inr (.inr ⟨k,v,rfl,rfl,h⟩)))
def SlT.nil:SlT S k s (.slice none 0 0):=⟨none,0,0,rfl,B7 _,DK _,λ_=>rfl,λh=>absurd h AZ⟩
theorem ClT.el (h:ClT S 2 s [.int .i64 op,v]):Sm op/\SlT S 3 0 v:=by
 rcases h with⟨h,_⟩ | ⟨_,x,y,h,b,f,_⟩ | ⟨h,_⟩ | ⟨h,_⟩ | ⟨j,u,b,_⟩
 .cases h
 .cases h;exact⟨b,f⟩
 .cases h
 .cases h
 .omega
theorem ClT.nt (h:ClT S 4 s [.int .i64 i, .int .i64 op,v,u]):∃r,Sm i/\Sm op/\SlT S 3 0 v/\SlT S 4 r u/\r<s:=by
 rcases h with⟨h,_⟩ | ⟨h,_⟩ | ⟨_,_,_,_,r,_,h,b⟩ | ⟨h,_⟩ | ⟨j,u,b,_⟩
 .cases h
 .cases h
 .cases h;exact⟨r,b⟩
 .cases h
 .omega
theorem ClT.am (h:ClT S 6 s [.int .i64 i, .int .i64 op,v,u,c,d]):∃p q r,Sm i/\Sm op/\SlT S 3 0 v/\SlT S 4 p u/\SlT S 2 q c/\SlT S 6 r d/\p+q+r+1<s:=by
 rcases h with⟨h,_⟩ | ⟨h,_⟩ | ⟨h,_⟩ | ⟨_,_,_,_,p,_,q,_,r,_,h,b⟩ | ⟨j,u,b,_⟩
 .cases h
 .cases h
 .cases h
 .cases h;exact⟨p,q,r,b⟩
 .omega
theorem ClT.grew {t:Nat}(h:ClT S k s cs)(D:s<=t):ClT S k t cs:=by
 rcases h with h | ⟨h,op,v,y,f,b,z⟩ | ⟨h,i,op,v,r,x,y,f,b,z,A,C⟩ | ⟨h,i,op,v,p,x,q,c,r,d,y,f,b,z,A,C,E,F⟩ | ⟨j,v,y,f,b⟩
 .exact .inl h
 .exact .inr (.inl ⟨h,op,v,y,f,b,AU⟩)
 .exact .inr (.inr (.inl ⟨h,i,op,v,r,x,y,f,b,z,A,AU⟩))
 .exact .inr (.inr (.inr (.inl ⟨h,i,op,v,p,x,q,c,r,d,y,f,b,z,A,C,E,AU⟩)))
 .exact .inr (.inr (.inr (.inr ⟨j,v,y,f,b.grew D⟩)))
def ClT.mkE (h:Sm op)(h1:SlT S 3 0 v):ClT S 2 1 [.int .i64 op,v]:=.inr (.inl ⟨rfl,op,v,rfl,h,h1,Nat.one_pos⟩)
def ClT.mkN (h:Sm i)(h1:Sm op)(b:SlT S 3 0 v)(f:SlT S 4 r u)(j:r<s):ClT S 4 s [.int .i64 i, .int .i64 op,v,u]:=.inr (.inr (.inl ⟨rfl,i,op,v,r,u,rfl,h,h1,b,f,j⟩))
def ClT.mkA {p q:Nat}(h:Sm i)(h1:Sm op)(y:SlT S 3 0 v)(b:SlT S 4 p u)(f:SlT S 2 q c)(z:SlT S 6 r d)(j:p+q+r+1<s):ClT S 6 s [.int .i64 i, .int .i64 op,v,u,c,d]:=.inr (.inr (.inr (.inl ⟨rfl,i,op,v,p,u,q,c,r,d,rfl,h,h1,y,b,f,z,j⟩)))
end
def flat (css:DC):List Value:=(css.map Prod.snd).flatten
def tot (css:DC):Nat:=(css.map Prod.fst).sum
def TW (S:FK)(w:World)(g:Nat):Prop:=∀b k s m o,S.2 b=some (k,s,m,o)->g<b/\b<w.heap.size/\∃css:DC,css.length=m/\tot css<=s/\(∀x∈css,ClT S k x.1 x.2)/\∀j u,(flat css)[j]?=some u->w.cell? ⟨b,o+j,none⟩=some u
theorem TW.grow {S:FK}{w w':World}{g:Nat}{r:Option Nat}(h:TW S w g)(hg:w.grownBy w' r)(hr:∀b,r=some b->b=g\/S.2 b=none):TW S w' g:=by
 intro b k s m o f;obtain⟨A,p,css,q,C,y,z⟩:=h b k s m o f;refine⟨A,B8 p hg.size,css,q,C,y,λj u D=>?_⟩;rw[World.cell?_of_block (hg.block b p λe=>(hr b e.symm).elim (λh=>by omega) λh=>by rw[h] at f;cases f)];exact z j u D
def StL (L g P:Nat)(w:World)(bs:List Nat)(ts:List Ia):Prop:=∃S:FK,TW S w g/\(Ph w g P/\S.1=L/\50000<=L)/\(∀b∈bs,g<b/\b<w.heap.size/\S.2 b=none)/\∀x∈ts,ClT S x.1 x.2.1 x.2.2
abbrev St:=StL 50000
def rowT (k:Nat)(css:DC):List Ia:=css.map λx=>(k,x.1,x.2)
def ob (v:Value):List Nat:=v.ownBlock.toList
section
variable {n o:Nat}{r:Option Nat}
variable {L g P Q : Nat}{w w' : World}{bs cs : List Nat}{ts us : List Ia}{k s : Nat}{v : Value}{css : DC}
def StL.rd (h:StL L g P w bs ts):Ph w g P:=let ⟨_,_,h,_⟩:=h;h.1
theorem StL.more1 {M:Nat}(h:StL L g P w bs ts)(p:L<=M):StL M g P w bs ts:=
 let ⟨S,F,f,z,y⟩:=h
 have u:Up S (M,S.2):=⟨(by rw[f.2.1];exact p),λ_ _ h=>h⟩
 ⟨(M,S.2),λb k s m o q=>let ⟨G,H,css,E,D,A,C⟩:=F b k s m o q;⟨G,H,css,E,D,λx j=>(A x j).up u,C⟩,⟨f.1,rfl,CB f.2.2 p⟩,z,λx j=>(y x j).up u⟩
theorem StL.grow (h:StL L g P w bs ts)(hg:w.grownBy w' r)(hr:∀b,r=some b->b=g\/b∈bs)(y:Ph w' g Q):StL L g Q w' bs ts:=
 let ⟨S,z,q,f,p⟩:=h
 ⟨S,z.grow hg λb e=>(hr b e).imp id λh=>(f b h).2.2,⟨y,q.2⟩,λb j=>⟨(f b j).1,B8 (f b j).2.1 hg.size,(f b j).2.2⟩,p⟩
theorem StL.go (h:StL L g P w bs ts)(f:Ph w' g Q)(hg:w.grownBy w' (some g)):StL L g Q w' bs ts:=h.grow hg (λb e=>.inl (by cases e;rfl)) f
def StL.lt (h:StL L g P w bs ts){b:Nat}(f:b∈bs):g<b/\b<w.heap.size:=let ⟨_,_,_,h,_⟩:=h;⟨(h b f).1,(h b f).2.1⟩
theorem StL.own (h:StL L g P w bs ts)(hg:w.grownBy w' r)(hr:∀b,r=some b->b∈bs):StL L g P w' bs ts:=h.grow hg (λb e=>.inr (hr b e)) (N6 h.rd hg λb e=>(h.lt (hr b e)).1)
theorem StL.alloc (h:StL L g P w bs ts)(o:Obj):StL L g P (w.alloc o) bs ts:=h.own (grown_below (Aa w o) none) (λb e=>by cases e)
theorem StL.bel (h:StL L g P w bs ts)(f:Below w.heap.size w w'):StL L g P w' bs ts:=h.own (grown_below f none) (λb e=>by cases e)
def StL.drew (h:StL L g P w bs ts):StL L g P w.drew bs ts:=h
theorem StL.set {b:Nat}{x:Value}(h:StL L g P w bs ts)(f:b∈bs):StL L g P (w.setCell ⟨b,o,none⟩ x) bs ts:=h.own (Q4 w b o x) (λc e=>by cases e;exact f)
theorem StL.mono (h:StL L g P w bs ts)(p:P<=Q):StL L g Q w bs ts:=let ⟨S,q,b,j,f⟩:=h;⟨S,q,⟨XO b.1 p,b.2⟩,j,f⟩
abbrev StL.mo:=@StL.mono
theorem StL.sub (h:StL L g P w bs ts)(j:∀b∈cs,b∈bs)(z:∀x∈us,x∈ts):StL L g P w cs us:=let ⟨S,A,y,p,q⟩:=h;⟨S,A,y,λb f=>p b (j b f),λx f=>q x (z x f)⟩
def StL.add (h:StL L g P w bs ts){y:Ia}(j:∀S,(∀x∈ts,ClT S x.1 x.2.1 x.2.2)->ClT S y.1 y.2.1 y.2.2):StL L g P w bs (y::ts):=let ⟨S,q,p,f,b⟩:=h;⟨S,q,p,f,List.forall_mem_cons.2 ⟨j S b,b⟩⟩
theorem StL.moreG (h:StL L g P w bs ts)(hg:w.grownBy w' r)(hr:∀b,r=some b->b=g\/b∈bs)(C:Ph w' g Q)(D:w.heap.size<=n)(z:n<w'.heap.size):StL L g Q w' (n::bs) ts:=by
 have E:=Tf h.rd;obtain⟨S,q,A,f,y⟩:=h;refine⟨S,q.grow hg (λb e=>(hr b e).imp id λh=>(f b h).2.2),⟨C,A.2⟩,List.forall_mem_cons.2 ⟨⟨AU,z,?_⟩,λb j=>⟨(f b j).1,B8 (f b j).2.1 hg.size,(f b j).2.2⟩⟩,y⟩;cases e:S.2 n with
 | none=>rfl
 | some x=>exact absurd (q _ _ _ _ _ e).2.1 AU
theorem StL.more (h:StL L g P w bs ts)(hg:w.grownBy w' r)(hr:∀b,r=some b->b∈bs)(f:w.heap.size<=n)(j:n<w'.heap.size):StL L g P w' (n::bs) ts:=h.moreG hg (λb e=>.inr (hr b e)) (h.own hg hr).rd f j
theorem StL.box (h:StL L g P w bs ts)(o:Obj):StL L g P (w.alloc o) (w.heap.size::bs) ts:=h.more (grown_below (Aa w o) none) (λb e=>by cases e) (B7 _) AW
def StL.le (h:StL L g P w bs ts):50000<=L:=let ⟨_,_,h,_⟩:=h;h.2.2
theorem StL.typ {b c:Nat}(h:StL L g P w (b::bs) ts)(D:b∉bs)(css:DC)(q:∀S,(∀x∈ts,ClT S x.1 x.2.1 x.2.2)->∀x∈css,ClT S k x.1 x.2)(X:∀j u,(flat css)[j]?=some u->w.cell? ⟨b,o+j,none⟩=some u)(G:tot css<=s)(E:n<=css.length)(M:n<=c)(R:n<=L):StL L g P w bs ((k+10,s,[.slice (some ⟨b,o,none⟩) n c])::ts):=by
 obtain⟨S,T,C,z,A⟩:=h;have y:=z b (DX ..)
 have hu:Up S (S.1,λc=>if c=b then some (k,s,css.length,o) else S.2 c):=⟨B7 _,λc x q=>by
  have:c≠b:=λe=>by rw[e,y.2.2] at q;cases q
  exact(if_neg this).trans q⟩
 refine⟨(S.1,λc=>if c=b then some (k,s,css.length,o) else S.2 c),λc N I m K f=>?_,C,λc f=>?_,List.forall_mem_cons.2 ⟨SlT.cl ⟨_,_,_,rfl,M,(by show _<=S.1;rw[C.2.1];exact R),(λe=>by cases e),λ_=>⟨b,o,_,_,rfl,E,B7 s,if_pos rfl⟩⟩,λx f=>(A x f).up hu⟩⟩
 .by_cases p:c=b
  .replace f:=(if_pos p).symm.trans f
   cases f;exact⟨p ▸ y.1,p ▸ y.2.1,css,rfl,G,λx f=>(q S A x f).up hu,λj u W=>by rw[p];exact X j u W⟩
  .replace f:=(if_neg p).symm.trans f
   obtain⟨U,V,ys,O,J,F,H⟩:=T c N I m K f;exact⟨U,V,ys,O,J,λx f=>(F x f).up hu,H⟩
 .have:=z c (CH _ f)
  exact⟨this.1,this.2.1,(if_neg (λe:c=b=>D (e ▸ f))).trans this.2.2⟩
def Lq {S:FK}(h:∀x∈rowT k css++ts,ClT S x.1 x.2.1 x.2.2):∀x∈css,ClT S k x.1 x.2:=λ_x b=>h _ (Hi _ (E0 (f:=λx=>(k,x.1,x.2)) b))
theorem StL.ice {B:Nat}{e:TypeId}(h:StL L g P w (ob v++bs) (rowT k css++ts))(q:w.ownsRow B e k v css.length (flat css))(G:∀b∈bs,b<B)(C:tot css<=s)(A:css.length<=L):StL L g P w bs ((k+10,s,[v])::ts):=by
 by_cases D:css.length=0
 .refine(h.sub (λb y=>DZ _ y) (λx f=>DZ _ f)).add λS _=>SlT.cl ?_
  rw[D] at q;rcases q.2 with⟨rfl,_⟩ | ⟨_,c,_,rfl,_,_,z,_⟩
  .exact SlT.nil
  .exact⟨_,0,c,rfl,DK _,DK _,(λe=>by cases e),λh=>absurd h AZ⟩
 .obtain⟨b,c,rfl,y,H,z,F⟩:=G7 q AU
  exact(StL.typ (n:=css.length) (o:=0) (c:=c) h (λf=>by have:=G b f;omega) css (λS=>Lq) (λj u E=>by rw[Cd];exact F j u E) C (B7 _) z A).sub (λ_ h=>h) (λx f=>(List.mem_cons.1 f).elim (λh=>h ▸ DX ..) λh=>CH _ (DZ _ h))
theorem WR {S:FK}(q:k<10)(h:∀x∈css,ClT S k x.1 x.2):(flat css).length=css.length*k/\∀u∈flat css,u.oneCell'=true:=by
 induction css with
 | nil=>simp[flat]
 | cons y l A=>
  obtain⟨C,z⟩:=A λx b=>h x (CH _ b)
  obtain⟨f,j⟩:=(h y AW).cells q;have e:flat (y::l)=y.2++flat l:=by simp[flat]
  rw[e,CO,C,f,CC,FP];exact⟨Nat.add_comm _ _,λu hu=>(List.mem_append.1 hu).elim (j u) (z u)⟩
theorem PN {S:FK}(q:k<10)(h:∀x∈css,ClT S k x.1 x.2){i:Nat}(hi:i<css.length){j:Nat}{u:Value}(b:css[i].2[j]?=some u):(flat css)[i*k+j]?=some u:=by
 induction css generalizing i with
 | nil=>cases hi
 | cons y l z=>
  have e:flat (y::l)=y.2++flat l:=by simp[flat]
  obtain⟨f,_⟩:=(h y AW).cells q;rw[e];cases i with
  | zero=>
   simp only[FM] at b;rw[ER,Cd,JE (List.getElem?_eq_some_iff.1 b).1];exact b
  | succ i=>
   rw[KA (by rw[f,FP];omega),f,FP,show i*k+k+j - k=i*k+j by omega];exact z (λx A=>h x (CH _ A)) Bn b
theorem StL.lit (h:StL L g P w bs ts)(css:DC)(xs:Array Value)(e:TypeId)(C:k<10)(j:∀x∈css,(k,x.1,x.2)∈ts)(hx:xs.toList=flat css)(E:tot css<=s)(G:css.length<=1000)(A:n=w.heap.size):StL L g P (w.alloc (.cells xs e)) bs ((k+10,s,[.slice (some ⟨n,0,none⟩) css.length css.length])::ts):=by
 subst A;have F:xs.size=css.length*k:=by
  obtain⟨S,_,_,_,z⟩:=h;rw[<-Array.length_toList,hx];exact(WR C λx hx=>z _ (j x hx)).1
 have q:=World.ownsRow_lit (base:=w.heap.size) (e:=e) (size:=k) w xs css.length (B7 _) BI F;rw[hx] at q
 exact((h.box _).sub (λb f=>f) (λx hx=>by
  rcases List.mem_append.1 hx with h | h
  .obtain⟨y,D,rfl⟩:=List.mem_map.1 h
   exact j y D
  .exact h)).ice q (λb f=>(h.lt f).2) E (by have:=h.le;omega)
theorem StL.lit1 {c:List Value}(h:StL L g P w bs ((k,s,c)::ts))(xs:Array Value)(e:TypeId)(f:k<10)(hx:xs.toList=c)(b:n=w.heap.size):StL L g P (w.alloc (.cells xs e)) bs ((k+10,s,[.slice (some ⟨n,0,none⟩) 1 1])::ts):=(h.lit [(s,c)] xs e f (λx hx=>by rw[List.mem_singleton.1 hx];exact DX ..) (by simp[flat,hx]) (B7 s) AW b).sub (λ_ h=>h) λz j=>(List.mem_cons.1 j).elim (λh=>h ▸ DX ..) λh=>CH _ (CH _ h)
end
variable {a:Act}{o:Oper}{ops:Array Oper}{s x:Operand}{u v:Value}
def Kd (k t e:Nat):Prop:=k<10/\0<k/\∃i z y,prog.underlying t=some (.slice e)/\prog.info? e=some i/\i.zero=some z/\i.size=k/\i.bytes=y/\y<=1000/\z.cells.size=k
def Ks {k t e y:Nat}{z:Value}(b:k<10/\0<k)(hu:prog.underlying t=some (.slice e))(h:(prog.info? e).map (λi=>(i.zero,i.size,i.bytes))=some (some z,k,y))(f:y<=1000)(p:z.cells.size=k):Kd k t e:=by
 obtain⟨i,hi,q,A,j⟩:=info_parts h;exact⟨b.1,b.2,i,z,y,hu,hi,q,A,j,f,p⟩
def kd2:Kd 2 58 51:=Ks (y:=32) (z:=.agg #[.int .i64 0, .slice none 0 0]) AZ underlying58 AY AZ rfl
def kd4:Kd 4 52 54:=Ks (y:=64) (z:=.agg #[.int .i64 0, .int .i64 0, .slice none 0 0, .slice none 0 0]) AZ underlying52 AY AZ rfl
def kd6:Kd 6 23 60:=Ks (y:=112) (z:=.agg #[.int .i64 0, .int .i64 0, .slice none 0 0, .slice none 0 0, .slice none 0 0, .slice none 0 0]) AZ underlying23 AY AZ rfl
theorem JM (b o j:Nat):(⟨b,o,none⟩:Addr).add j=⟨b,o+j,none⟩:=by
 unfold Addr.add;split
 .rename_i h;rw[h];rfl
 .rfl
theorem I9 {w:World}{K:Act->World->Prop}{Q:Exit->Act->World->Prop}{E:Prop}{t:TypeId}{Post:Value->World->Prop}(hg:o.guard=none)(f:o.op=.call {callee:=.builtin .append,args:=#[s,x],argTypes:=#[t,t]})
  (hr:∃b w',(Builtin.append_ #[t,t] o.type #[v,u]).run prog w=.ok b w'/\Post b w') (h:a.eval s=v) (hx:a.eval x=u) (j:∀b w',Post b w'->K (a.put o.dst b) w'):
  if Region.wanted o (yielded ops a.tmps)=true then Oper.wp prog o a w K Q else E:=by
 rw[if_pos (by simp[Region.wanted,hg])];obtain⟨b,w',p,q⟩:=hr;unfold Oper.wp execOp;simp only[f,resolve,invoke,builtin,Sem.run_bind,Sem.run_pure,Result.andThen_ok,fh,CN,EB,h,hx,p];exact j b w' q
theorem Bd {rest:List Oper}{w:World}{Q:Exit->Act->World->Prop}{t:TypeId}{Post:Value->World->Prop}(hg:o.guard=none)(f:o.op=.call {callee:=.builtin .append,args:=#[s,x],argTypes:=#[t,t]})
  (hr:∃b w',(Builtin.append_ #[t,t] o.type #[v,u]).run prog w=.ok b w'/\Post b w') (j:a.eval s=v) (hx:a.eval x=u) (h:∀b w',Post b w'->wpList prog ops Q rest (a.put o.dst b) w'):wpList prog ops Q (o::rest) a w:=by
 refine wpList_plain hg λK p=>?_
 have:=I9 (ops:=#[]) (K:=K) (Q:=Q) (E:=True) hg f hr j hx λb w' q=>p _ _ (h b w' q)
 rwa [if_pos (by simp[Region.wanted,hg])] at this
section
variable {L g P Q : Nat}{w w' : World}{bs cs : List Nat}{ts us : List Ia}{k s : Nat}{v : Value}{css : DC}{t e B : Nat}
theorem StL.push {c:List Value}(C:TypeId)(X:Kd k t e)(h:StL L g P w (ob v++bs) ((k,s,c)::(rowT k css++ts)))(Z:w.ownsRow B e k v css.length (flat css))(hB:B<=w.heap.size)(hn:css.length<=60000):
  ∃q w',(Builtin.append_ #[t,t] C #[v, .slice (some ⟨w.heap.size,0,none⟩) 1 1]).run prog (w.alloc (.cells c.toArray e))=.ok q w'/\w'.ownsRow B e k q (css.length+1) (flat (css++[(s,c)]))/\StL L g P w' (ob q++bs) (rowT k (css++[(s,c)])++ts)/\w.grownBy w' v.ownBlock/\∀b,b<w.heap.size->v.ownBlock≠some b->q.ownBlock≠some b:=by
 obtain⟨O,T,i,z,y,hu,hi,Y,N,V,J,R⟩:=X;obtain⟨W,U⟩:c.length=k/\∀u∈c,u.oneCell'=true:=let ⟨S,_,_,_,H⟩:=h;(H _ (DX ..)).cells O
 have f:(css.length+1)*y<=60001*1000:=Nat.mul_le_mul AU J;obtain⟨q,w',M,E,I,-,j⟩:=run_append_own_at (P:=prog) (w.alloc (.cells c.toArray e)) B t C e i z k y hu hi Y N V R T v css.length (flat css) (Z.alloc _) ⟨w.heap.size,0,none⟩ 1 1 c (by rw[W,Nat.one_mul]) (by exact Xf _ _ _ _ AW) U BI AU yBd;have A:w.grownBy w' v.ownBlock:=Oq (grown_below (Aa _ _) _) I;have D:∀b,v.ownBlock=some b->b∈ob v++bs:=λb f=>Hi _ (by simp[ob,f])
 have G:∀x∈rowT k (css++[(s,c)])++ts,x∈(k,s,c)::(rowT k css++ts):=λx F=>by
  simp only[rowT,CX,CN,EB,Dm,C2,EJ,EK] at F ⊢;rcases F with(h | h) | h
  .exact .inr (.inl h)
  .exact .inl h
  .exact .inr (.inr h)
 refine⟨q,w',M,by simpa[flat] using E,?_,A,λb f K e=>?_⟩
 rotate_left
 .rcases j with j | j
  .exact K (j ▸ e)
  .rw[j,World.size_alloc] at e
   simp only[EQ] at e;omega
 rcases j with j | j
 .exact(h.own A D).sub (λb f=>by rw[ob,j] at f;exact f) G
 .refine(h.more A D (n:=w.heap.size+1) (IX _) (by have:=(E.lt _ j).2;simpa using this)).sub (λb f=>?_) G
  rw[ob,j] at f;rcases List.mem_append.1 f with f | f
  .simp at f;rw[f];exact DX ..
  .exact CH _ (DZ _ f)
theorem StL.copy {a:Option Addr}{n c:Nat}(I:TypeId)(kd:Kd k t e)(h:StL L g P w bs ts)(hu:(k+10,s,[.slice a n c])∈ts)(hL:L<=60000):
  ∃F w',(Builtin.append_ #[t,t] I #[.slice (some ⟨w.heap.size,0,none⟩) 0 0, .slice a n c]).run prog (w.alloc (.cells #[] e))=.ok F w'/\∃(css:DC) (b A:Nat),F=.slice (some ⟨b,0,none⟩) n A/\css.length=n/\tot css<=s/\w'.ownsRow w.heap.size e k (.slice (some ⟨b,0,none⟩) n A) css.length (flat css)/\StL L g P w' (b::bs) (rowT k css++ts)/\w.grownBy w' none/\w.heap.size<=b/\n<=L:=by
 obtain⟨hk,ae,i,ad,y,T,hi,hz,ab,af,D,ac⟩:=kd;have M:(w.alloc (.cells #[] e)).ownsRow w.heap.size e k (.slice (some ⟨w.heap.size,0,none⟩) 0 0) 0 []:=by
  have:=World.ownsRow_lit (base:=w.heap.size) (e:=e) (size:=k) w #[] 0 (B7 _) BI AW
  simpa using this
 obtain⟨S,R,O,Y,H⟩:=id h;obtain⟨a',n',A,hv,aj,E,_,V⟩:=(H _ hu).sl;rw[O.2.1] at E;cases hv;by_cases X:n=0
 .subst X
  refine⟨_,_,?_,[],w.heap.size,0,rfl,rfl,DK _,M,h.box _,grown_below (Aa _ _) _,B7 _,E⟩;cases a<;>simp[Builtin.append_,run_underlying T,sizeOf,typeInfo,hi,Builtin.lenOf,Builtin.firstCells,loadCells,loadCellsFrom,go_sem]
 .obtain⟨b,o,m,r,rfl,ai,ah,hS⟩:=V AU
  obtain⟨x1,x2,css,x3,x4,Z,x6⟩:=R _ _ _ _ _ hS;have J:∀x∈css.take n,ClT S k x.1 x.2:=λx z=>Z x (List.mem_of_mem_take z)
  have C:(css.take n).length=n:=by rw[Fo];omega
  obtain⟨K,aa⟩:=WR hk J;rw[C] at K;have W:∀j u,(flat (css.take n))[j]?=some u->(flat css)[j]?=some u:=λj u f=>by
   have e:flat css=flat (css.take n)++flat (css.drop n):=by rw[flat,flat,flat,<-ET,<-CX,Ft]
   rw[e,JE (List.getElem?_eq_some_iff.1 f).1];exact f
  have ak:(0+n)*y<=60000*1000:=Nat.mul_le_mul AU D;obtain⟨F,w',hr,G,q,-,k5⟩:=run_append_own_at (P:=prog) (w.alloc (.cells #[] e)) w.heap.size t I e i ad k y T hi hz ab af ac ae _ 0 [] M ⟨b,o,none⟩ n c (flat (css.take n)) K (λj u f=>by rw[JM,Bz x2];exact x6 j u (W j u f)) aa BI AU yBd;rw[Cd,C3] at G;obtain⟨b',A,rfl,N,ag,_,_⟩:=G7 G AU;have U:w.grownBy w' none:=⟨q.os,q.tape,q.output,CB (Aa w (.cells #[] e)).size q.size,λj f _=>(q.block j (B8 f (Aa w (.cells #[] e)).size) (λe=>by cases e;exact Hj _ f)).trans ((Aa w (.cells #[] e)).block j f)⟩
  refine⟨_,w',hr,css.take n,b',A,rfl,C,?_,by rw[C];exact G,?_,U,N,E⟩
  .refine CB (CB ?_ x4) ah
   rw[tot,tot,List.map_take];have:=Ft n (css.map Prod.fst)
   rw[<-this,FX,Ft];exact Nat.le_add_right _ _
  .exact(show StL L g P w bs (rowT k (css.take n)++ts) from⟨S,R,O,Y,λx z=>(List.mem_append.1 z).elim (λz=>by obtain⟨y,D,rfl⟩:=List.mem_map.1 z;exact J y D) (H x)⟩).more U (λb e=>by cases e) N ag
end
open Stil
variable {α:Type}
theorem Wa {R:Nat × List Value->α->Prop}{f:α->Nat}:∀(css:DC),(∀x∈css,∃y,R x y/\f y<=x.1)->∃l:List α,l.length=css.length/\(l.map f).sum<=tot css/\∀i (j:i<css.length) (A:i<l.length),R css[i] l[i]
 | [],_=>⟨[],rfl,B7 _,λi h=>absurd h (Nat.not_lt_zero _)⟩
 | x::css,h=>by
  obtain⟨y,j,A⟩:=h x (DX ..);obtain⟨l,p,q,D⟩:=Wa css λz C=>h z (CH _ C)
  refine⟨y::l,by rw[CC,CC,p],?_,λi=>?_⟩
  .simp only[tot,CN,Da] at q ⊢
   omega
  .cases i with
   | zero=>exact λ_ _=>j
   | succ i=>exact λa b=>D i (by simpa using a) (by simpa using b)
def bX (l:List α):(l.map λ_=>1).sum=l.length:=by induction l<;>simp_all[Nat.add_comm]
theorem KN {css:DC}{x:Nat × List Value}(h:x∈css):x.1<=tot css:=by
 induction css with
 | nil=>cases h
 | cons y l b=>
  simp only[tot,CN,Da] at b ⊢;rcases List.mem_cons.1 h with rfl | h
  .omega
  .have:=b h;omega
def EL (w:World)(b o:Nat)(cs:List Value):Prop:=∀j u,cs[j]?=some u->w.cell? ⟨b,o+j,none⟩=some u
section
variable {B c e i n:Nat}
variable {S : FK}{w w' : World}{L g P Q k s : Nat}{v : Value}{cs : List Value}{bs : List Nat}{ts : List Ia}
theorem SlT.all (X:TW S w g)(h:SlT S k s v)(T:k<10){α:Type}(f:α->Nat)(G:α->Prop)(A:Nat->Nat->α->Prop)(hx:∀z cs,z<=s->ClT S k z cs->∃y,(G y/\∀b o,EL w b o cs->A b o y)/\f y<=z):
  ∃l:List α,(∃a c,v=.slice a l.length c/\(l.length<=c/\(a=none->c=0))/\∀i (h:i<l.length),∃b o,a=some ⟨b,o,none⟩/\g<b/\b<w.heap.size/\A b (o+i*k) l[i])/\(∀y∈l,G y)/\l.length<=S.1/\(l.map f).sum<=s:=by
 obtain⟨a,n,c,rfl,F,E,Y,J⟩:=h;by_cases K:n=0
 .subst K
  exact⟨[],⟨a,c,rfl,⟨F,Y⟩,λi h=>absurd h (Nat.not_lt_zero _)⟩,(λy q=>by cases q),E,DK _⟩
 .obtain⟨b,o,m,r,rfl,ab,Z,hS⟩:=J AU
  obtain⟨U,W,css,x3,O,D,N⟩:=X _ _ _ _ _ hS;have V:(css.take n).length=n:=by rw[Fo];omega
  have M:tot (css.take n)<=tot css:=by
   rw[tot,tot,List.map_take];conv=>rhs;rw[<-Ft n (css.map Prod.fst),FX]
   exact Nat.le_add_right _ _
  obtain⟨l,j,h2,C⟩:=Wa (R:=λx y=>G y/\∀b o,EL w b o x.2->A b o y) (f:=f) (css.take n) λx I=>hx x.1 x.2 (CB (CB (CB (KN I) M) O) Z) (D x (List.mem_of_mem_take I))
  rw[V] at j;refine⟨l,⟨_,c,by rw[j],⟨by rw[j];exact F,(λe=>by cases e)⟩,λi hi=>⟨b,o,rfl,U,W,?_⟩⟩,λy q=>?_,by rw[j];exact E,AU⟩
  .refine(C i AU hi).2 _ _ λaa u H=>?_
   rw[List.getElem_take] at H;rw[Nat.add_assoc];exact N _ _ (PN T D AU H)
  .obtain⟨i,hi,rfl⟩:=List.getElem_of_mem q
   exact(C i AU hi).1
theorem SlT.devs (z:TW S w g)(h:SlT S 3 s v):∃f,J6 w g v f/\(∀d∈f,Small d)/\f.length<=S.1:=by
 obtain⟨l,y,A,q,_⟩:=h.all z AZ (λ(_:Stil.B9)=>0) Small (Iz w) λC cs _ h=>by
  rcases h with⟨_,d,rfl,hd⟩ | ⟨h,_⟩ | ⟨h,_⟩ | ⟨h,_⟩ | ⟨j,u,h,_⟩
  .exact⟨d,⟨hd,λb o h=>⟨h 0 _ rfl,h 1 _ rfl,h 2 _ rfl⟩⟩,DK _⟩
  .cases h
  .cases h
  .cases h
  .omega
 exact⟨l,y,A,q⟩
def P4 {x:Int}(h:Sm x):Stil.i64 x:=⟨by have:=h.1;omega,by have:=h.2;omega⟩
def YB {op:Int}{ds:List Stil.B9}(b:Sm op)(h:∀d∈ds,Small d)(hl:ds.length<=60000):Stil.Elem.fits ⟨op,ds⟩:=⟨P4 b,CB hl AZ,λd hd=>(h d hd).fits⟩
theorem SlT.elems (C:TW S w g)(hl:S.1<=60000)(h:SlT S 2 s v):∃f,F6 w v f/\(∀x∈f,Stil.Elem.fits x)/\f.length<=60000/\f.length<=s:=by
 obtain⟨l,⟨a,c,M,_,D⟩,H,E,I⟩:=h.all C AZ (λ(_:Stil.Elem)=>1) Stil.Elem.fits (IF w) λN cs _ h=>by
  rcases h with⟨h,_⟩ | ⟨_,op,v,rfl,G,J,F⟩ | ⟨h,_⟩ | ⟨h,_⟩ | ⟨j,u,h,_⟩
  .cases h
  .obtain⟨K,y,z,q⟩:=J.devs C
   exact⟨⟨op,K⟩,⟨YB G z (CB q hl),λb o h=>⟨h 0 _ rfl,v,h 1 _ rfl,y.devs⟩⟩,F⟩
  .cases h
  .cases h
  .omega
 refine⟨l,⟨a,c,M,λi hi=>let ⟨b,o,y,_,z,q⟩:=D i hi;⟨b,o,y,z,q⟩⟩,H,CB E hl,?_⟩
 rwa [bX] at I
theorem ClT.net (z:TW S w g)(hl:S.1<=60000):∀(s:Nat) (cs:List Value),ClT S 4 s cs->∃n,(Bi n/\∀b o,EL w b o cs->N9 w b o n)/\Ac n<=s:=by
 intro s;induction s using Nat.strongRecOn with
 | ind s I=>
  intro cs h;rcases h with⟨h,_⟩ | ⟨h,_⟩ | ⟨_,i,op,v,r,u,rfl,hi,D,G,hu,K⟩ | ⟨h,_⟩ | ⟨j,u,h,_⟩
  .cases h
  .cases h
  .obtain⟨H,q,y,f⟩:=G.devs z
   obtain⟨l,⟨a,c,rfl,_,A⟩,F,C,M⟩:=hu.all z AZ Ac Bi (N9 w) λE cs J=>I E AU cs
   refine⟨⟨i,⟨op,H⟩,l⟩,⟨(Gn _ _ _).2 ⟨P4 hi,YB D y (CB f hl),CB (CB C hl) AZ,F⟩,λb o h=>?_⟩,by rw[Oi];omega⟩;rw[LY];exact⟨h 0 _ rfl,h 1 _ rfl,⟨v,h 2 _ rfl,q.devs⟩,a,c,h 3 _ rfl,λi hi=>let ⟨b,o,q,_,y,f⟩:=A i hi;⟨b,o,q,y,f⟩⟩
  .cases h
  .omega
theorem ClT.arm (f:TW S w g)(hl:S.1<=60000):∀(s:Nat) (cs:List Value),ClT S 6 s cs->∃n,(Ba n/\∀b o,EL w b o cs->P5 w b o n)/\Ah n<=s:=by
 intro s;induction s using Nat.strongRecOn with
 | ind s V=>
  intro cs h;rcases h with⟨h,_⟩ | ⟨h,_⟩ | ⟨h,_⟩ | ⟨_,i,op,v,p,u,q,c,r,d,rfl,hi,E,J,hu,N,hd,Y⟩ | ⟨j,u,h,_⟩
  .cases h
  .cases h
  .cases h
  .obtain⟨n,⟨F,R⟩,X⟩:=ClT.net f hl _ _ (ClT.mkN hi E J hu (DN p))
   obtain⟨z,K,G,U,e4⟩:=N.elems f hl;obtain⟨l,⟨a,O,rfl,_,C⟩,I,D,Z⟩:=hd.all f AZ Ah Ba (P5 w) λH cs W=>V H AU cs
   refine⟨⟨n,z,l⟩,⟨(Eu _ _ _).2 ⟨F,CB U AZ,G,CB (CB D hl) AZ,I⟩,λb o h=>?_⟩,?_⟩
   .rw[Ln]
    refine⟨R b o λj x y=>h j x ?_,⟨c,h 4 _ rfl,K⟩,a,O,h 5 _ rfl,λi hi=>let ⟨b,o,M,_,T,A⟩:=C i hi;⟨b,o,M,T,A⟩⟩;have hl:j<4:=(List.getElem?_eq_some_iff.1 y).1;rw[<-y];exact JE (l₁:=[_,_,_,_]) (l₂:=[_,_]) hl
   .rw[Qs]
    split<;>omega
  .omega
theorem StL.arms (h:StL L g P w bs ts)(F:L<=60000)(D:(16,s,[v])∈ts):∃(l:List Stil.B5) (a:Option Addr) (c:Nat),v=.slice a l.length c/\Dc w v l/\(∀x∈l,Ba x)/\l.length<=60000/\Bc l<=s:=by
 obtain⟨S,j,J,_,z⟩:=h;have q:S.1<=60000:=by rw[J.2.1];exact F
 obtain⟨l,⟨a,c,f,_,G⟩,E,A,I⟩:=(ClT.sl (z _ D)).all j AZ Ah Ba (P5 w) λC cs _=>ClT.arm j q C cs
 exact⟨l,a,c,f,⟨a,c,f,λi hi=>let ⟨b,o,H,_,K,y⟩:=G i hi;⟨b,o,H,K,y⟩⟩,E,CB A q,I⟩
def ZX (ds:List Stil.B9):flat (ds.map λd=>(0,[.int .i64 d.kind, .int .i64 d.n, .int .i64 d.p]))=Bv ds/\tot (ds.map λd=>(0,[.int .i64 d.kind, .int .i64 d.n, .int .i64 d.p]))=0:=by induction ds<;>simp_all[flat,tot,Bv,Sl]
theorem StL.el {e:Ending}(h:StL L g P w bs ts)(I:LA e w w' g Q n)(R:n<=L):∃op a n c,e=.returned (.agg #[.int .i64 op, .slice a n c])/\StL L g Q w' bs ((2,1,[.int .i64 op, .slice a n c])::ts)/\w.grownBy w' (some g):=by
 obtain⟨op,v,q,rfl,D,F,G,T,C,A⟩:=I;obtain⟨a,c,rfl,z,f⟩:=id F;refine⟨op,a,q.length,c,rfl,?_,A⟩;by_cases M:q.length=0
 .rw[M] at z ⊢
  exact(h.go C A).add λS _=>ClT.mkE D ⟨a,0,c,rfl,DK _,DK _,z.2,λh=>absurd h AZ⟩
 .obtain⟨b,o,rfl,O,N,_⟩:=f 0 AU
  obtain⟨J,H⟩:=ZX q
  have K:=StL.typ (k:=3) (s:=0) (n:=q.length) (c:=c) (o:=o) (h.moreG A (λb e=>.inl (by cases e;rfl)) C AU N) (λf=>by have:=(h.lt f).2;omega) (q.map λd=>(0,[.int .i64 d.kind, .int .i64 d.n, .int .i64 d.p])) (λS _ x f=>by
   obtain⟨d,hd,rfl⟩:=List.mem_map.1 f;exact .inl ⟨rfl,d,rfl,G d hd⟩) (λj u E=>by
   rw[J] at E;have:=XY F j u E
   rwa [JM] at this) (by rw[H];exact B7 _) AW z.1 AU
  exact(K.add (y:=(2,1,_)) λS hS=>ClT.mkE D (ClT.sl (hS _ (DX ..)))).sub (λ_ h=>h) (λx f=>(List.mem_cons.1 f).elim (λh=>h ▸ DX ..) λh=>CH _ (CH _ h))
def EF (w:World)(b:Nat):Nat->List Value->World
 | _,[]=>w
 | o,x::l=>EF (w.setCell ⟨b,o,none⟩ x) b (o+1) l
def G2 (xs:List Value):Nat->List Value->List Value
 | _,[]=>xs
 | o,x::l=>G2 (xs.set o x) (o+1) l
theorem OC {b:Nat}:∀(l:List Value) (w:World) (o:Nat) (xs:List Value),w.ownsRow B e k (.slice (some ⟨b,0,none⟩) n c) n xs->(EF w b o l).ownsRow B e k (.slice (some ⟨b,0,none⟩) n c) n (G2 xs o l)
 | [],_,_,_,h=>h
 | x::l,_w,o,_xs,h=>OC l _ (o+1) _ (h.stored o x).1
theorem M3 (a t:List Value):∀(l:List Value) (o:Nat),G2 (a++t) (a.length+o) l=a++G2 t o l:=by
 intro l;induction l generalizing t with
 | nil=>exact λ_=>rfl
 | cons x l b=>
  intro o;rw[G2,G2,List.set_append_right _ _ AU,Nat.add_sub_cancel_left,Nat.add_assoc,b]
theorem VM (l:List Value):∀(a t:List Value),a.length=l.length->G2 (a++t) 0 l=l++t:=by
 induction l with
 | nil=>intro a t h;rw[List.length_eq_zero_iff.1 h];rfl
 | cons x l b=>
  intro a t h;cases a with
  | nil=>cases h
  | cons y a=>exact(M3 [x] (a++t) l 0).trans (by rw[b a t Br];rfl)
theorem om {css:DC}(f:k<10)(h:∀x∈css,ClT S k x.1 x.2)(hi:i<css.length){x:Nat × List Value}(hx:x.2.length=k):G2 (flat css) (i*k) x.2=flat (css.set i x):=by
 induction css generalizing i with
 | nil=>cases hi
 | cons y l q=>
  obtain⟨b,_⟩:=(h y AW).cells f;have e:∀z:Nat × List Value,flat (z::l)=z.2++flat l:=λz=>by simp[flat]
  cases i with
  | zero=>rw[List.set_cons_zero,e,e,ER,VM _ _ _ (by rw[b,hx])]
  | succ i=>
   have j:flat (y::l.set i x)=y.2++flat (l.set i x):=by simp[flat]
   rw[List.set_cons_succ,e,j,FP,Nat.add_comm,<-q (λx hx=>h x (CH _ hx)) Bn,<-M3,b]
theorem OT {b:Nat}{css:DC}(h:StL L g P w bs (rowT k css++ts))(p:w.ownsRow B e k (.slice (some ⟨b,0,none⟩) css.length c) css.length (flat css))(j:k<10)(hi:i<css.length){x:Nat × List Value}(hx:x.2.length=k):(EF w b (i*k) x.2).ownsRow B e k (.slice (some ⟨b,0,none⟩) css.length c) (css.set i x).length (flat (css.set i x)):=by
 obtain⟨S,_,_,_,f⟩:=h;have:=OC x.2 w (i*k) _ p
 rw[Gk]
 rwa [om j (Lq f) hi hx] at this
theorem LU {b:Nat}{css:DC}(h:StL L g P w bs (rowT k css++ts))(C:w.ownsRow B e k (.slice (some ⟨b,0,none⟩) n c) css.length (flat css))(z:k<10)(hi:i<css.length):EL w b (i*k) css[i].2:=by
 obtain⟨S,_,_,_,q⟩:=h;obtain⟨E,D,A,_,_,_,y⟩:=G7 C AU;cases A;exact λj u f=>y _ _ (PN z (Lq q) hi f)
theorem Lo {css:DC}(hi:i<css.length){x:Nat × List Value}{q:Nat}(b:x.1<=css[i].1+q):tot (css.set i x)<=tot css+q:=by
 induction css generalizing i with
 | nil=>cases hi
 | cons y l f=>
  cases i with
  | zero=>simp only[List.set_cons_zero,tot,CN,Da,FM] at b ⊢;omega
  | succ i=>
   have:=f (i:=i) Bn b
   simp only[List.set_cons_succ,tot,CN,Da] at this ⊢;omega
def StL.devs (h:StL L g P w bs ts)(hx:∀S:FK,(∀x∈ts,ClT S x.1 x.2.1 x.2.2)->SlT S 3 0 v):∃b,J6 w g v b/\(∀d∈b,Small d)/\b.length<=L:=by
 obtain⟨S,p,j,_,f⟩:=h;have:=(hx S f).devs p
 rwa [j.2.1] at this
theorem Uh {b:Nat}:∀(l:List Value) (w:World) (o:Nat),w.grownBy (EF w b o l) (some b)
 | [],w,_=>Uj w _
 | x::l,w,o=>Oq (Q4 w b o x) (Uh l _ (o+1))
theorem StL.rowset {x:Nat × List Value}{css:DC}(h:StL L g P w bs ((k,x.1,x.2)::(rowT k css++ts))):StL L g P w bs (rowT k (css.set i x)++ts):=h.sub (λ_ h=>h) λz b=>by
 rcases List.mem_append.1 b with b | b
 .obtain⟨y,j,rfl⟩:=List.mem_map.1 b
  rcases fi j with h | rfl
  .exact CH _ (Hi _ (E0 (f:=λx=>(k,x.1,x.2)) h))
  .exact DX ..
 .exact CH _ (DZ _ b)
theorem StL.put {x:Nat × List Value}{css:DC}{b o:Nat}(h:StL L g P w bs ((k,x.1,x.2)::(rowT k css++ts)))(f:b∈bs):StL L g P (EF w b o x.2) bs (rowT k (css.set i x)++ts):=StL.rowset (h.own (Uh _ _ _) (λc e=>by cases e;exact f))
def StL.kid {css:DC}(h:StL L g P w bs (rowT k css++ts))(hi:i<css.length):StL L g P w bs ((k,css[i].1,css[i].2)::(rowT k css++ts)):=h.add (y:=(k,css[i].1,css[i].2)) λ_ hS=>Lq hS _ (CG hi)
end
structure Tr where
 ints:List Int
 rows:List (List Tr)
theorem Tr.ind {P:Tr->Prop}(h:∀i r,(∀l∈r,∀t∈l,P t)->P ⟨i,r⟩)(t:Tr):P t:=
 Tr.rec (motive_1:=P) (motive_2:=λr=>∀l∈r,∀t∈l,P t) (motive_3:=λl=>∀t∈l,P t) h (λ_ m=>by cases m) (λ_ _ a b=>List.forall_mem_cons.2 ⟨a,b⟩) (λ_ m=>by cases m) (λ_ _ a b=>List.forall_mem_cons.2 ⟨a,b⟩) t
def GY:List (List Value->Prop)->List Value->Prop
 | [],xs=>xs=[]
 | p::b,xs=>∃c r,xs=c++r/\p c/\GY b r
def SlP (P:Nat->Prop)(w:World)(ps:List (List Value->Prop))(v:Value):Prop:=∃a c,v=.slice a ps.length c/\ps.length<=c/\(a=none->c=0)/\(ps≠[]->∃b o xs,a=some ⟨b,o,none⟩/\P b/\b<w.heap.size/\GY ps xs/\EL w b o xs)
def FH (P:Nat->Prop)(w:World):List (List (List Value->Prop))->List Value->Prop
 | [],b=>b=[]
 | ps::f,b=>∃v r,b=v::r/\SlP P w ps v/\FH P w f r
def TrC (P:Nat->Prop)(w:World):Tr->List Value->Prop
 | ⟨i,r⟩=>λcs=>∃b,cs=i.map (Value.int .i64)++b/\FH P w (r.attach.map λl=>l.1.attach.map λx=>have:=Nat.lt_trans (IW x.2) (IW l.2);TrC P w x.1) b
abbrev X7 (P:Nat->Prop)(w:World)(l:List Tr)(xs:List Value):Prop:=GY (l.map (TrC P w)) xs
abbrev SlC (P:Nat->Prop)(w:World)(l:List Tr)(v:Value):Prop:=SlP P w (l.map (TrC P w)) v
abbrev fX (P:Nat->Prop)(w:World)(b:List (List Tr))(vs:List Value):Prop:=FH P w (b.map λl=>l.map (TrC P w)) vs
theorem G0 (P:Nat->Prop)(w:World)(i:List Int)(r:List (List Tr))(cs:List Value):TrC P w ⟨i,r⟩ cs↔∃b,cs=i.map (Value.int .i64)++b/\fX P w r b:=by
 have e:(r.attach.map λl=>l.1.attach.map λx=>TrC P w x.1)=r.map λl=>l.map (TrC P w):=by simp only[List.attach_map_val]
 rw[TrC.eq_1];show(∃b,cs=_/\FH P w (r.attach.map λl=>l.1.attach.map λx=>TrC P w x.1) b)↔_
 rw[e]
def Kp (P Q:Nat->Prop)(w w':World):Prop:=w.heap.size<=w'.heap.size/\∀b,P b->b<w.heap.size->Q b/\∀o,w'.cell? ⟨b,o,none⟩=w.cell? ⟨b,o,none⟩
theorem GY.imp {f g:Tr->List Value->Prop}:∀(l:List Tr),(∀t∈l,∀c,f t c->g t c)->∀xs,GY (l.map f) xs->GY (l.map g) xs
 | [],_,_,h=>h
 | t::l,h,_,⟨c,r,q,j,b⟩=>⟨c,r,q,h t (.head _) c j,GY.imp l (λt p=>h t (.tail _ p)) r b⟩
section
variable {c:List Value}{k:Nat}
variable {P Q : Nat -> Prop}{w w' : World}
theorem SlP.kp (y:Kp P Q w w'){f g:Tr->List Value->Prop}{l:List Tr}(h:∀t∈l,∀c,f t c->g t c){v:Value}(G:SlP P w (l.map f) v):SlP Q w' (l.map g) v:=by
 obtain⟨a,c,rfl,I,F,C⟩:=G;refine⟨a,c,AW,by simpa using I,F,λA=>?_⟩;obtain⟨b,o,xs,D,z,q,E,H⟩:=C (by simpa using A);exact⟨b,o,xs,D,(y.2 b z q).1,B8 q y.1,GY.imp l h xs E,λj u J=>((y.2 b z q).2 _).trans (H j u J)⟩
theorem FH.kp (p:Kp P Q w w'){f g:Tr->List Value->Prop}:∀(b:List (List Tr)),(∀l∈b,∀t∈l,∀c,f t c->g t c)->∀j,FH P w (b.map λl=>l.map f) j->FH Q w' (b.map λl=>l.map g) j
 | [],_,_,h=>h
 | l::b,h,_,⟨v,r,A,z,q⟩=>⟨v,r,A,z.kp p (h l (.head _)),FH.kp p b (λl y=>h l (.tail _ y)) r q⟩
theorem TrC.kp (f:Kp P Q w w'):∀(t:Tr) (cs:List Value),TrC P w t cs->TrC Q w' t cs:=by
 intro t;induction t using Tr.ind with
 | h i r p=>
  intro cs h;rw[G0] at h ⊢;obtain⟨b,q,j⟩:=h;exact⟨b,q,FH.kp f r p b j⟩
theorem X7.kp (b:Kp P Q w w'){l:List Tr}{xs:List Value}(h:X7 P w l xs):X7 Q w' l xs:=GY.imp l (λt _=>TrC.kp b t) xs h
theorem X7.app:∀{l m:List Tr} {xs ys:List Value},X7 P w l xs->X7 P w m ys->X7 P w (l++m) (xs++ys)
 | [],_,_,_,h,k=>by cases h;exact k
 | _::_,_,_,_,⟨c,r,j,f,b⟩,k=>⟨c,r++_,by rw[j,C6],f,X7.app b k⟩
theorem X7.one {t:Tr}:X7 P w [t] c↔TrC P w t c:=
 ⟨λ⟨p,r,j,f,b⟩=>by cases b;rw[j,EO];exact f,λh=>⟨c,[],(EO _).symm,h,rfl⟩⟩
theorem FH.len:∀{f:List (List (List Value->Prop))} {b:List Value},FH P w f b->b.length=f.length/\∀u∈b,u.oneCell'=true
 | [],_,h=>by cases h;simp
 | ps::f,_,⟨v,r,z,⟨a,c,j,_⟩,p⟩=>by
  subst z j;obtain⟨y,q⟩:=FH.len p;exact⟨by simp[y],List.forall_mem_cons.2 ⟨rfl,q⟩⟩
def Tr.sz (t:Tr):Nat:=t.ints.length+t.rows.length
theorem TrC.len {t:Tr}(h:TrC P w t c):c.length=t.sz/\∀u∈c,u.oneCell'=true:=by
 obtain⟨i,r⟩:=t;obtain⟨p,rfl,j⟩:=(G0 _ _ _ _ _).1 h;obtain⟨b,f⟩:=FH.len j;refine⟨by simp[Tr.sz,b],λu hu=>?_⟩;rcases List.mem_append.1 hu with hu | hu
 .obtain⟨x,_,rfl⟩:=List.mem_map.1 hu
  rfl
 .exact f u hu
theorem X7.len:∀{l:List Tr} {xs:List Value},X7 P w l xs->(∀t∈l,t.sz=k)->xs.length=l.length*k/\∀u∈xs,u.oneCell'=true
 | [],_,h,_=>by cases h;simp
 | t::l,_,⟨c,r,A,q,j⟩,f=>by
  subst A;obtain⟨b,y⟩:=q.len;obtain⟨p,C⟩:=X7.len j λt z=>f t (.tail _ z)
  rw[f t (.head _)] at b;exact⟨by rw[CO,b,p,CC,FP,Nat.add_comm],λu hu=>(List.mem_append.1 hu).elim (y u) (C u)⟩
theorem X7.get:∀{l:List Tr} {xs:List Value},X7 P w l xs->(∀t∈l,t.sz=k)->∀(i:Nat) (hi:i<l.length),∃c,TrC P w l[i] c/\∀j u,c[j]?=some u->xs[i*k+j]?=some u
 | t::l,_,⟨c,r,y,q,z⟩,f,0,_=>⟨c,q,λj u b=>by
  rw[y,ER,Cd,JE (List.getElem?_eq_some_iff.1 b).1];exact b⟩
 | t::l,_,⟨c,r,y,q,z⟩,f,i+1,hi=>by
  obtain⟨d,A,C⟩:=X7.get z (λt D=>f t (.tail _ D)) i Bn;refine⟨d,A,λj u b=>?_⟩;have:=q.len.1
  rw[f t (.head _)] at this;rw[y,KA (by rw[this,FP];omega),this,FP,show i*k+k+j - k=i*k+j by omega];exact C j u b
end
def Sv (w:World)(bs:List Nat)(ts:List (List Tr × List Value)):Prop:=(∀b∈bs,b<w.heap.size)/\∀x∈ts,X7 (λb=>b∉bs) w x.1 x.2
def sl (l:List Tr):Tr:=⟨[],[l]⟩
theorem I4 {P:Nat->Prop}{w:World}{l:List Tr}{v:Value}:X7 P w [sl l] [v]↔SlC P w l v:=by
 rw[X7.one,sl,G0];constructor
 .rintro⟨q,b,y,r,p,f,j⟩
  cases j;rw[p] at b;cases b;exact f
 .exact λh=>⟨[v],rfl,v,[],rfl,h,rfl⟩
section
variable {n o:Nat}{r:Option Nat}{α:Type}
variable {w w' : World}{bs cs : List Nat}{ts us : List (List Tr × List Value)}{l m : List Tr}{t : Tr}{xs ys c : List Value}{v u : Value}{k e B t' : Nat}
theorem Sv.grow (h:Sv w bs ts)(hg:w.grownBy w' r)(hr:∀b,r=some b->b∈bs):Sv w' bs ts:=
 ⟨λb f=>B8 (h.1 b f) hg.size,λx p=>(h.2 x p).kp ⟨hg.size,λb f j=>⟨f,λ_o=>World.cell?_of_block (hg.block b j λe=>f (hr b e.symm))⟩⟩⟩
theorem Sv.bel (h:Sv w bs ts)(f:Below w.heap.size w w'):Sv w' bs ts:=h.grow (grown_below f none) (λb e=>by cases e)
def Sv.alloc (h:Sv w bs ts)(o:Obj):Sv (w.alloc o) bs ts:=h.bel (Aa w o)
theorem Sv.set {b:Nat}{x:Value}(h:Sv w bs ts)(f:b∈bs):Sv (w.setCell ⟨b,o,none⟩ x) bs ts:=h.grow (Q4 w b o x) (λc e=>by cases e;exact f)
def Sv.drew (h:Sv w bs ts):Sv w.drew bs ts:=h.bel ((Below.refl _ _).drew)
def Sv.sub (h:Sv w bs ts)(j:∀b∈cs,b∈bs)(q:∀x∈us,x∈ts):Sv w cs us:=
 ⟨λb f=>h.1 b (j b f),λx f=>(h.2 x (q x f)).kp ⟨B7 _,λb f _=>⟨λp=>f (j b p),λ_=>rfl⟩⟩⟩
theorem Sv.moreG (h:Sv w bs ts)(hg:w.grownBy w' r)(hr:∀b,r=some b->b∈bs)(D:w.heap.size<=n)(q:n<w'.heap.size):Sv w' (n::bs) ts:=by
 obtain⟨A,C⟩:=h.grow hg hr;have y:=h.2;refine⟨List.forall_mem_cons.2 ⟨q,A⟩,λx p=>(y x p).kp ⟨hg.size,λb j z=>⟨λf=>?_,λo=>World.cell?_of_block (hg.block b z λe=>j (hr b e.symm))⟩⟩⟩;rcases List.mem_cons.1 f with rfl | f
 .omega
 .exact j f
theorem Sv.box (h:Sv w bs ts)(o:Obj):Sv (w.alloc o) (w.heap.size::bs) ts:=h.moreG (grown_below (Aa w o) none) (λb e=>by cases e) (B7 _) AW
def Sv.der {y:List Tr × List Value}(h:Sv w bs ts)(b:∀P,(∀x∈ts,X7 P w x.1 x.2)->X7 P w y.1 y.2):Sv w bs (y::ts):=⟨h.1,List.forall_mem_cons.2 ⟨b _ h.2,h.2⟩⟩
theorem Sv.cat (h:Sv w bs ts)(h1:(l,xs)∈ts)(f:(m,ys)∈ts):Sv w bs ((l++m,xs++ys)::ts):=h.der (y:=(l++m,xs++ys)) λ_P b=>(b _ h1).app (b _ f)
def Sv.nil (h:Sv w bs ts):Sv w bs (([],[])::ts):=h.der (y:=([],[])) λ_ _=>rfl
def Sv.snil (h:Sv w bs ts):Sv w bs (([sl []],[.slice none 0 0])::ts):=h.der (y:=([sl []],_)) λ_ _=>I4.2 ⟨none,0,rfl,B7 _,λ_=>rfl,λh=>absurd rfl h⟩
def Sv.fst (h:Sv w bs ts)(h1:(t::l,xs)∈ts):∃c r,xs=c++r/\Sv w bs (([t],c)::(l,r)::ts):=by
 obtain⟨c,r,j,f,b⟩:=h.2 _ h1;exact⟨c,r,j,h.1,List.forall_mem_cons.2 ⟨X7.one.2 f,List.forall_mem_cons.2 ⟨b,h.2⟩⟩⟩
def Sv.len (h:Sv w bs ts)(h1:(l,xs)∈ts)(b:∀t∈l,t.sz=k):xs.length=l.length*k/\∀u∈xs,u.oneCell'=true:=(h.2 _ h1).len b
theorem Sv.ice1 {b:Nat}(h:Sv w (b::bs) ts)(j:b∉bs)(q:(l,xs)∈ts)(y:EL w b o xs)(p:l.length<=n):Sv w bs (([sl l],[.slice (some ⟨b,o,none⟩) l.length n])::ts):=
 have f:=h.sub (cs:=bs) (λ_ h=>.tail _ h) (λ_ h=>h)
 ⟨f.1,List.forall_mem_cons.2 ⟨I4.2 ⟨_,n,by rw[CP],by rw[CP];exact p,(λe=>by cases e),λ_=>⟨b,o,xs,rfl,j,h.1 b (.head _),f.2 _ q,y⟩⟩,f.2⟩⟩
theorem Sv.ice2 (h:Sv w (ob v++bs) ts)(z:(l,xs)∈ts)(hrow:w.ownsRow B e k v l.length xs)(A:∀b,v.ownBlock=some b->b∉bs):Sv w bs (([sl l],[v])::ts):=by
 rcases hrow.2 with⟨rfl,y⟩ | ⟨g,n,cur,rfl,C,D,q,_⟩
 .obtain rfl:=List.length_eq_zero_iff.1 y
  exact(h.sub (λb f=>DZ _ f) λ_ h=>h).snil
 .refine Sv.ice1 (o:=0) (h.sub (λ_ h=>h) λ_ h=>h) (A g rfl) z (λj u hj=>?_) q
  rw[Cd,hrow.cellAt j yEh];exact hj
def Sv.ice (h:Sv w (ob v++bs) ts)(f:(l,xs)∈ts)(j:w.ownsRow B e k v l.length xs)(q:∀b∈bs,b<B):Sv w bs (([sl l],[v])::ts):=h.ice2 f j λb p f=>by have:=q b f;have:=(j.lt b p).1;omega
theorem Sv.lit (h:Sv w bs ts)(f:(l,xs)∈ts)(ys:Array Value)(e:TypeId)(q:ys.toList=xs)(p:n=w.heap.size):Sv (w.alloc (.cells ys e)) bs (([sl l],[.slice (some ⟨n,0,none⟩) l.length l.length])::ts):=by
 subst p;refine(h.box (.cells ys e)).ice1 (λy=>Hj _ (h.1 _ y)) f (λj u b=>?_) (B7 _);subst q;have:=Xf w ys.toList e _ rfl j u b
 rwa [JM] at this
def IL (w:World)(u:Value)(n:Nat)(ys:List Value):Prop:=∃a c,u=.slice a n c/\((n=0/\ys=[])\/∃b o,a=some ⟨b,o,none⟩/\b<w.heap.size/\EL w b o ys)
theorem Sv.src (h:Sv w bs ts)(h1:([sl l],[u])∈ts):∃ys,IL w u l.length ys/\Sv w bs ((l,ys)::ts):=by
 obtain⟨a,c,rfl,_,_,p⟩:=I4.1 (h.2 _ h1);rw[CP] at*;by_cases f:l=[]
 .subst f
  exact⟨[],⟨a,c,rfl, .inl ⟨rfl,rfl⟩⟩,h.nil⟩
 .obtain⟨b,o,ys,rfl,_,j,q,y⟩:=p (by simpa using f)
  exact⟨ys,⟨_,c,rfl, .inr ⟨b,o,rfl,j,y⟩⟩,h.1,List.forall_mem_cons.2 ⟨q,h.2⟩⟩
theorem XJ (hrow:w.ownsRow B e k v l.length xs):IL w v l.length xs:=by
 rcases hrow.2 with⟨rfl,b⟩ | ⟨g,n,cur,rfl,q,y,f,_⟩
 .exact⟨none,0,by rw[b], .inl ⟨b,List.length_eq_zero_iff.1 (by rw[hrow.1,b,ER])⟩⟩
 .refine⟨_,n,rfl, .inr ⟨g,0,rfl,(hrow.lt g rfl).2,λj u hj=>?_⟩⟩
  rw[Cd,hrow.cellAt j yEh];exact hj
theorem b8 (w:World)(c:List Value)(e:TypeId):IL (w.alloc (.cells c.toArray e)) (.slice (some ⟨w.heap.size,0,none⟩) 1 1) 1 c:=⟨_,_,rfl, .inr ⟨_,0,rfl,AW,λj u b=>by have:=Xf w c e _ rfl j u b;rwa [JM] at this⟩⟩
theorem Sv.app (I:TypeId)(kd:Kd k t' e)(h:Sv w (ob v++bs) ts)(W:(l,xs)∈ts)(H:(m,ys)∈ts)(U:∀t∈m,t.sz=k)(hu:IL w u m.length ys)(G:w.ownsRow B e k v l.length xs)(Z:B<=w.heap.size)(R:l.length+m.length<=2000000):
  ∃A w',(Builtin.append_ #[t',t'] I #[v,u]).run prog w=.ok A w'/\w'.ownsRow B e k A (l++m).length (xs++ys)/\Sv w' (ob A++bs) ((l++m,xs++ys)::ts)/\w.grownBy w' v.ownBlock/\∀b,b<w.heap.size->v.ownBlock≠some b->A.ownBlock≠some b:=by
 obtain⟨hk,ad,i,ac,y,M,hi,hz,aa,af,T,ab⟩:=kd;obtain⟨a,c,rfl,hu⟩:=hu;have F:=h.cat W H;obtain⟨N,h1⟩:=h.len H U;by_cases K:m.length=0
 .obtain rfl:=List.length_eq_zero_iff.1 K
  have X:ys=[]:=List.length_eq_zero_iff.1 (by rw[N];simp);subst X;have O:∃E D,v=.slice E l.length D/\l.length<=D:=by
   rcases G.2 with⟨rfl,z⟩ | ⟨g,n,cur,rfl,_,_,z,_⟩
   .exact⟨none,0,by rw[z],by rw[z];exact B7 _⟩
   .exact⟨_,n,rfl,z⟩
  obtain⟨E,D,rfl,ae⟩:=O;refine⟨_,w,?_,by simpa using G,F,Uj _ _,λb _ h=>h⟩;cases a<;>cases E<;>simp[Builtin.append_,run_underlying M,sizeOf,typeInfo,hi,Builtin.lenOf,Builtin.firstCells,loadCells,loadCellsFrom,go_sem,ae]
 .rcases hu with hu | ⟨b,o,rfl,-,hc⟩
  .exact absurd hu.1 K
  have f:(l.length+m.length)*y<=2000000*1000:=Nat.mul_le_mul R T;obtain⟨A,w',Y,z,C,-,q⟩:=run_append_own_at (P:=prog) w B t' I e i ac k y M hi hz aa af ab ad v l.length xs G ⟨b,o,none⟩ m.length c ys N (λj u hj=>by rw[JM];exact hc j u hj) h1 BI AU Z;have J:∀b,v.ownBlock=some b->b∈ob v++bs:=λb f=>Hi _ (by simp[ob,f])
  refine⟨A,w',Y,by rw[CO];exact z,?_,C,λb f V e=>?_⟩
  .rcases q with q | q
   .have:=F.grow C J
    rw[ob,<-q] at this;exact this
   .refine(F.moreG C J (B7 _) (z.lt _ q).2).sub (λb f=>?_) λ_ h=>h
    rw[ob,q] at f;rcases List.mem_append.1 f with f | f
    .rw[Option.toList_some,Q6] at f;rw[f];exact .head _
    .exact .tail _ (DZ _ f)
  .rcases q with q | q
   .exact V (q ▸ e)
   .rw[q] at e
    simp only[EQ] at e;omega
theorem VW (h:w.ownsRow B e k v n xs):∃a c,v=.slice a n c/\n<=c:=by
 rcases h.2 with⟨rfl,b⟩ | ⟨g,c,cur,rfl,_,_,f,_⟩
 .exact⟨none,0,by rw[b],by rw[b];exact B7 _⟩
 .exact⟨_,c,rfl,f⟩
theorem Sv.appM {f:α->Tr}{L M:List α}(y:TypeId)(H:Kd k t' e)(h:Sv w (ob v++bs) ts)(G:(L.map f,xs)∈ts)(z:(M.map f,ys)∈ts)(E:∀x,(f x).sz=k)(hu:IL w u (M.map f).length ys)(K:w.ownsRow B e k v L.length xs)(J:B<=w.heap.size)(A:L.length+M.length<=2000000):
  ∃j w',(Builtin.append_ #[t',t'] y #[v,u]).run prog w=.ok j w'/\∃a n,j=.slice a (L++M).length n/\w'.ownsRow B e k (.slice a (L++M).length n) (L++M).length (xs++ys)/\Sv w' (ob (.slice a (L++M).length n)++bs) (((L++M).map f,xs++ys)::ts)/\w.grownBy w' v.ownBlock/\∀b,b<w.heap.size->v.ownBlock≠some b->(Value.slice a (L++M).length n).ownBlock≠some b:=by
 obtain⟨j,w',F,p,q,C,I⟩:=Sv.app (B:=B) y H h G z (by intro t D;obtain⟨x,_,rfl⟩:=List.mem_map.1 D;exact E x) hu (by simpa using K) J (by simpa using A);rw[<-CX,CP] at p;rw[<-CX] at q;obtain⟨a,n,rfl,_⟩:=VW p;exact⟨_,w',F,a,n,rfl,p,q,C,I⟩
theorem Sv.pushM {f:α->Tr}{L:List α}{x:α}(q:TypeId)(G:Kd k t' e)(h:Sv w (ob v++bs) ts)(F:(L.map f,xs)∈ts)(y:([f x],c)∈ts)(D:∀x,(f x).sz=k)(J:w.ownsRow B e k v L.length xs)(O:B<=w.heap.size)(N:L.length<=1900000):
  ∃j w',(Builtin.append_ #[t',t'] q #[v, .slice (some ⟨w.heap.size,0,none⟩) 1 1]).run prog (w.alloc (.cells c.toArray e))=.ok j w'/\∃a n,j=.slice a (L++[x]).length n/\w'.ownsRow B e k (.slice a (L++[x]).length n) (L++[x]).length (xs++c)/\Sv w' (ob (.slice a (L++[x]).length n)++bs) (((L++[x]).map f,xs++c)::ts)/\w.grownBy w' v.ownBlock/\∀b,b<w.heap.size->v.ownBlock≠some b->(Value.slice a (L++[x]).length n).ownBlock≠some b:=by
 obtain⟨j,w',E,a,n,H,z,A,I,C⟩:=Sv.appM (B:=B) (M:=[x]) q G (h.alloc (.cells c.toArray e)) F y D (b8 w c e) (J.alloc _) yBd Ax;exact⟨j,w',E,a,n,H,z,A,Oq (grown_below (Aa _ _) _) I,λb K=>C b yBd⟩
end
