import Derived.Test.YtgnkpbhknkinoaaGreatDoorD9
import Derived.Test.YtgnkpbhknkinoaaGreatDoorGa
set_option linter.defProp false
namespace Go.Proofs.YtgnkpbhknkinoaaGreatDoor
open Tryz Go.RowKit Go.Sort Go.BigFrame
abbrev IQ:=Nat × (Nat->Option (Nat × Nat × Nat × Nat))
abbrev Nh:=Nat × Nat × List AW
abbrev Ge:=List (Nat × List AW)
def SlT(S:IQ)(k s:Nat)(v:AW):Prop:=∃a n c,v=AE a n c/\n<=c/\n<=S.1/\(a=none->c=0)/\(0<n->∃b o m r,a=some (AK b o)/\n<=m/\r<=s/\S.2 b=some (k,r,m,o))
abbrev Sm(x:Int):Prop:=-1000000<=x/\x<=1000000
def ClT(S:IQ)(k s:Nat)(cs:List AW):Prop:=
 (k=3/\∃d:Stil.DN,cs=[AB d.kind,AB d.n,AB d.p]/\Small d)\/
 (k=2/\∃op v,cs=[AB op,v]/\Sm op/\SlT S 3 0 v/\0<s)\/
 (k=4/\∃i op v r u,cs=[AB i,AB op,v,u]/\Sm i/\Sm op/\SlT S 3 0 v/\SlT S 4 r u/\r<s)\/
 (k=6/\∃i op v p u q c r d,cs=[AB i,AB op,v,u,c,d]/\Sm i/\Sm op/\SlT S 3 0 v/\SlT S 4 p u/\SlT S 2 q c/\SlT S 6 r d/\p+q+r+1<s)\/
 ∃j v,k=j+10/\cs=[v]/\SlT S j s v
def Up(S S':IQ):Prop:=S.1<=S'.1/\∀b x,S.2 b=some x->S'.2 b=some x
section
variable {c d u:AW}{i op:Int}{r:Nat}
variable {S S' : IQ}{k s : Nat}{v : AW}{cs : List AW}
theorem SlT.up(h:SlT S k s v)(u:Up S S'):SlT S' k s v:=
 let ⟨a,n,c,f,l,j,q,p⟩:=h
 ⟨a,n,c,f,l,DR j u.1,q,λh=>let ⟨b,o,m,r,x,y,A,z⟩:=p h;⟨b,o,m,r,x,y,A,u.2 _ _ z⟩⟩
theorem SlT.grew{t:Nat}(h:SlT S k s v)(j:s<=t):SlT S k t v:=
 let ⟨a,n,c,f,p,l,A,q⟩:=h
 ⟨a,n,c,f,p,l,A,λh=>let ⟨b,o,m,r,x,y,C,z⟩:=q h;⟨b,o,m,r,x,y,DR C j,z⟩⟩
theorem ClT.up(h:ClT S k s cs)(u:Up S S'):ClT S' k s cs:=by
 rcases h with h|⟨h,op,v,f,b,l,m⟩|⟨h,i,op,v,r,x,f,b,l,m,z,y⟩|⟨h,i,op,v,p,x,q,c,r,d,f,b,l,m,z,y,A,C⟩|⟨j,v,f,b,l⟩
 .exact .inl h
 .exact .inr (.inl ⟨h,op,v,f,b,l.up u,m⟩)
 .exact .inr (.inr (.inl ⟨h,i,op,v,r,x,f,b,l,m.up u,z.up u,y⟩))
 .exact .inr (.inr (.inr (.inl ⟨h,i,op,v,p,x,q,c,r,d,f,b,l,m.up u,z.up u,y.up u,A.up u,C⟩)))
 exact .inr (.inr (.inr (.inr ⟨j,v,f,b,l.up u⟩)))
theorem ClT.cells(h:ClT S k s cs)(l:k<10):cs.length=k/\∀u∈cs,u.oneCell'=true:=by rcases h with⟨rfl,d,rfl,_⟩|⟨rfl,op,v,rfl,_,⟨_,_,_,rfl,_⟩,_⟩|⟨rfl,i,op,v,r,x,rfl,_,_,⟨_,_,_,rfl,_⟩,⟨_,_,_,rfl,_⟩,_⟩|⟨rfl,i,op,v,p,x,q,c,r,d,rfl,_,_,⟨_,_,_,rfl,_⟩,⟨_,_,_,rfl,_⟩,⟨_,_,_,rfl,_⟩,⟨_,_,_,rfl,_⟩,_⟩|⟨j,v,b,f,m⟩;all_goals first|exact⟨rfl,by simp[Value.oneCell']⟩|omega
theorem ClT.sl(h:ClT S (k+10) s [v]):SlT S k s v:=by
 rcases h with⟨h,_⟩|⟨h,_⟩|⟨h,_⟩|⟨h,_⟩|⟨j,u,l,b,f⟩
 .omega
 .omega
 .omega
 .omega
 cases b;obtain rfl:k=j:=BS;exact f
def SlT.cl(h:SlT S k s v):ClT S (k+10) s [v]:=.inr (.inr (.inr (.inr ⟨k,v,rfl,rfl,h⟩)))
def SlT.nil:SlT S k s AG:=⟨none,0,0,rfl,DK _,EI _,λ_=>rfl,λh=>absurd h BZ⟩
theorem ClT.el(h:ClT S 2 s [AB op,v]):Sm op/\SlT S 3 0 v:=by
 rcases h with⟨h,_⟩|⟨_,x,y,h,b,f,_⟩|⟨h,_⟩|⟨h,_⟩|⟨j,u,b,_⟩
 .cases h
 .cases h;exact⟨b,f⟩
 .cases h
 .cases h
 omega
theorem ClT.nt(h:ClT S 4 s [AB i,AB op,v,u]):∃r,Sm i/\Sm op/\SlT S 3 0 v/\SlT S 4 r u/\r<s:=by
 rcases h with⟨h,_⟩|⟨h,_⟩|⟨_,_,_,_,r,_,h,b⟩|⟨h,_⟩|⟨j,u,b,_⟩
 .cases h
 .cases h
 .cases h;exact⟨r,b⟩
 .cases h
 omega
theorem ClT.am(h:ClT S 6 s [AB i,AB op,v,u,c,d]):∃p q r,Sm i/\Sm op/\SlT S 3 0 v/\SlT S 4 p u/\SlT S 2 q c/\SlT S 6 r d/\p+q+r+1<s:=by
 rcases h with⟨h,_⟩|⟨h,_⟩|⟨h,_⟩|⟨_,_,_,_,p,_,q,_,r,_,h,b⟩|⟨j,u,b,_⟩
 .cases h
 .cases h
 .cases h
 .cases h;exact⟨p,q,r,b⟩
 omega
theorem ClT.grew{t:Nat}(h:ClT S k s cs)(A:s<=t):ClT S k t cs:=by
 rcases h with h|⟨h,op,v,f,b,l,m⟩|⟨h,i,op,v,r,x,f,b,l,m,y,z⟩|⟨h,i,op,v,p,x,q,c,r,d,f,b,l,m,y,z,C,D⟩|⟨j,v,f,b,l⟩
 .exact .inl h
 .exact .inr (.inl ⟨h,op,v,f,b,l,BS⟩)
 .exact .inr (.inr (.inl ⟨h,i,op,v,r,x,f,b,l,m,y,BS⟩))
 .exact .inr (.inr (.inr (.inl ⟨h,i,op,v,p,x,q,c,r,d,f,b,l,m,y,z,C,BS⟩)))
 exact .inr (.inr (.inr (.inr ⟨j,v,f,b,l.grew A⟩)))
def ClT.mkE(h:Sm op)(h1:SlT S 3 0 v):ClT S 2 1 [AB op,v]:=.inr (.inl ⟨rfl,op,v,rfl,h,h1,Nat.one_pos⟩)
def ClT.mkN(h:Sm i)(h1:Sm op)(f:SlT S 3 0 v)(j:SlT S 4 r u)(b:r<s):ClT S 4 s [AB i,AB op,v,u]:=.inr (.inr (.inl ⟨rfl,i,op,v,r,u,rfl,h,h1,f,j,b⟩))
def ClT.mkA{p q:Nat}(h:Sm i)(h1:Sm op)(b:SlT S 3 0 v)(m:SlT S 4 p u)(j:SlT S 2 q c)(l:SlT S 6 r d)(f:p+q+r+1<s):ClT S 6 s [AB i,AB op,v,u,c,d]:=.inr (.inr (.inr (.inl ⟨rfl,i,op,v,p,u,q,c,r,d,rfl,h,h1,b,m,j,l,f⟩)))
end
def flat(css:Ge):List AW:=(css.map Prod.snd).flatten
def tot(css:Ge):Nat:=(css.map Prod.fst).sum
def TW(S:IQ)(w:AU)(g:Nat):Prop:=∀b k s m o,S.2 b=some (k,s,m,o)->g<b/\b<w.heap.size/\∃css:Ge,css.length=m/\tot css<=s/\(∀x∈css,ClT S k x.1 x.2)/\∀j u,(flat css)[j]?=some u->w.cell? (AK b (o+j))=some u
def TW.grow{S:IQ}{w w':AU}{g:Nat}{r:Option Nat}(h:TW S w g)(hg:w.grownBy w' r)(hr:∀b,r=some b->b=g\/S.2 b=none):TW S w' g:=by intro b k s m o f;have⟨y,l,css,p,A,C,q⟩:=h b k s m o f;refine⟨y,DL l hg.size,css,p,A,C,λj u z=>?_⟩;rw[BE (hg.block b l λe=>(hr b e.symm).elim (λh=>by omega) λh=>by rw[h]at f;cases f)];exact q j u z
def StL(L g P:Nat)(w:AU)(bs:List Nat)(ts:List Nh):Prop:=∃S:IQ,TW S w g/\(Ku w g P/\S.1=L/\50000<=L)/\(∀b∈bs,g<b/\b<w.heap.size/\S.2 b=none)/\∀x∈ts,ClT S x.1 x.2.1 x.2.2
abbrev St:=StL 50000
def rowT(k:Nat)(css:Ge):List Nh:=css.map λx=>(k,x.1,x.2)
def ob(v:AW):List Nat:=v.ownBlock.toList
section
variable {n o:Nat}{r:Option Nat}
variable {L g P Q : Nat}{w w' : AU}{bs cs : List Nat}{ts us : List Nh}{k s : Nat}{v : AW}{css : Ge}
def StL.rd(h:StL L g P w bs ts):Ku w g P:=let ⟨_,_,h,_⟩:=h;h.1
def StL.grow(h:StL L g P w bs ts)(hg:w.grownBy w' r)(hr:∀b,r=some b->b=g\/b∈bs)(p:Ku w' g Q):StL L g Q w' bs ts:=
 let ⟨S,l,m,f,q⟩:=h
 ⟨S,l.grow hg λb e=>(hr b e).imp id λh=>(f b h).2.2,⟨p,m.2⟩,λb j=>⟨(f b j).1,DL (f b j).2.1 hg.size,(f b j).2.2⟩,q⟩
theorem StL.go(h:StL L g P w bs ts)(f:Ku w' g Q)(hg:w.grownBy w' (some g)):StL L g Q w' bs ts:=h.grow hg (λb e=>.inl (by cases e;rfl)) f
def StL.lt(h:StL L g P w bs ts){b:Nat}(f:b∈bs):g<b/\b<w.heap.size:=let ⟨_,_,_,h,_⟩:=h;⟨(h b f).1,(h b f).2.1⟩
def StL.own(h:StL L g P w bs ts)(hg:w.grownBy w' r)(hr:∀b,r=some b->b∈bs):StL L g P w' bs ts:=h.grow hg (λb e=>.inr (hr b e)) (Qo h.rd hg λb e=>(h.lt (hr b e)).1)
theorem StL.alloc(h:StL L g P w bs ts)(o:Obj):StL L g P (w.alloc o) bs ts:=h.own (grown_below (Aa w o) none) (λb e=>by cases e)
theorem StL.bel(h:StL L g P w bs ts)(f:AO w w'):StL L g P w' bs ts:=h.own (grown_below f none) (λb e=>by cases e)
def StL.drew(h:StL L g P w bs ts):StL L g P w.drew bs ts:=h
theorem StL.set{b:Nat}{x:AW}(h:StL L g P w bs ts)(f:b∈bs):StL L g P (w.setCell (AK b o) x) bs ts:=h.own (I5 w b o x) (λc e=>by cases e;exact f)
def StL.mono(h:StL L g P w bs ts)(j:P<=Q):StL L g Q w bs ts:=let ⟨S,f,b,m,l⟩:=h;⟨S,f,⟨Il b.1 j,b.2⟩,m,l⟩
abbrev StL.mo:=@StL.mono
def StL.sub(h:StL L g P w bs ts)(m:∀b∈cs,b∈bs)(q:∀x∈us,x∈ts):StL L g P w cs us:=let ⟨S,j,l,y,p⟩:=h;⟨S,j,l,λb f=>y b (m b f),λx f=>p x (q x f)⟩
def StL.add(h:StL L g P w bs ts){y:Nh}(m:∀S,(∀x∈ts,ClT S x.1 x.2.1 x.2.2)->ClT S y.1 y.2.1 y.2.2):StL L g P w bs (y::ts):=let ⟨S,f,j,l,b⟩:=h;⟨S,f,j,l,BA.2 ⟨m S b,b⟩⟩
theorem StL.moreG(h:StL L g P w bs ts)(hg:w.grownBy w' r)(hr:∀b,r=some b->b=g\/b∈bs)(m:Ku w' g Q)(C:w.heap.size<=n)(z:n<w'.heap.size):StL L g Q w' (n::bs) ts:=by
 have A:=Jb h.rd;obtain⟨S,l,q,f,y⟩:=h;refine⟨S,l.grow hg (λb e=>(hr b e).imp id λh=>(f b h).2.2),⟨m,q.2⟩,BA.2 ⟨⟨BS,z,?_⟩,λb j=>⟨(f b j).1,DL (f b j).2.1 hg.size,(f b j).2.2⟩⟩,y⟩;cases e:S.2 n with
 |none=>rfl|some x=>exact absurd (l _ _ _ _ _ e).2.1 BS
def StL.more(h:StL L g P w bs ts)(hg:w.grownBy w' r)(hr:∀b,r=some b->b∈bs)(j:w.heap.size<=n)(f:n<w'.heap.size):StL L g P w' (n::bs) ts:=h.moreG hg (λb e=>.inr (hr b e)) (h.own hg hr).rd j f
theorem StL.box(h:StL L g P w bs ts)(o:Obj):StL L g P (w.alloc o) (w.heap.size::bs) ts:=h.more (grown_below (Aa w o) none) (λb e=>by cases e) (DK _) BU
def StL.le(h:StL L g P w bs ts):50000<=L:=let ⟨_,_,h,_⟩:=h;h.2.2
theorem StL.typ{b c:Nat}(h:StL L g P w (b::bs) ts)(O:b∉bs)(css:Ge)(l:∀S,(∀x∈ts,ClT S x.1 x.2.1 x.2.2)->∀x∈css,ClT S k x.1 x.2)(E:∀j u,(flat css)[j]?=some u->w.cell? (AK b (o+j))=some u)(D:tot css<=s)(R:n<=css.length)(U:n<=c)(K:n<=L):StL L g P w bs ((k+10,s,[AE (some (AK b o)) n c])::ts):=by
 obtain⟨S,M,y,z,A⟩:=h;have q:=z b (E1 ..)
 have hu:Up S (S.1,λc=>if c=b then some (k,s,css.l,o) else S.2 c):=⟨DK _,λc x l=>by
  have:c≠b:=λe=>by rw[e,q.2.2]at l;cases l
  exact(BQ this).tr l⟩
 refine⟨(S.1,λc=>if c=b then some (k,s,css.l,o) else S.2 c),λc G V m W f=>?_,y,λc f=>?_,BA.2 ⟨SlT.cl ⟨_,_,_,rfl,U,(by show _<=S.1;rwa[y.2.1]),(λe=>by cases e),λ_=>⟨b,o,_,_,rfl,R,DK s,BR rfl⟩⟩,λx f=>(A x f).up hu⟩⟩
 .by_cases p:c=b;{replace f:=(BR p).symm.tr f;cases f;exact⟨p ▸ q.1,p ▸ q.2.1,css,rfl,D,λx f=>(l S A x f).up hu,λj u I=>by rw[p];exact E j u I⟩};replace f:=(BQ p).symm.tr f;have⟨H,T,F,C,J,X,N⟩:=M c G V m W f;exact⟨H,T,F,C,J,λx f=>(X x f).up hu,N⟩
 have:=z c (DY _ f);exact⟨this.1,this.2.1,(BQ (λe:c=b=>O (e ▸ f))).tr this.2.2⟩
def mX{S:IQ}(h:∀x∈rowT k css++ts,ClT S x.1 x.2.1 x.2.2):∀x∈css,ClT S k x.1 x.2:=λ_x b=>h _ (J0 _ (IC (f:=λx=>(k,x.1,x.2)) b))
theorem StL.ice{B:Nat}{e:AZ}(h:StL L g P w (ob v++bs) (rowT k css++ts))(l:w.ownsRow B e k v css.length (flat css))(E:∀b∈bs,b<B)(z:tot css<=s)(C:css.length<=L):StL L g P w bs ((k+10,s,[v])::ts):=by
 by_cases y:css.length=0
 .refine(h.sub (λb q=>EM _ q) (λx f=>EM _ f)).add λS _=>SlT.cl ?_;rw[y]at l;rcases l.2 with⟨rfl,_⟩|⟨_,c,_,rfl,_,_,m,_⟩;{exact SlT.nil};exact⟨_,0,c,rfl,EI _,EI _,(λe=>by cases e),λh=>absurd h BZ⟩
 obtain⟨b,c,rfl,q,F,m,A⟩:=J9 l BS;exact(StL.typ (n:=css.length) (o:=0) (c:=c) h (λf=>by have:=E b f;omega) css (λS=>mX) (λj u D=>by rw[ED];exact A j u D) z (DK _) m C).sub (λ_ h=>h) (λx f=>(BD.1 f).elim (λh=>h ▸ E1 ..) λh=>DY _ (EM _ h))
def jR{S:IQ}(q:k<10)(h:∀x∈css,ClT S k x.1 x.2):(flat css).length=css.length*k/\∀u∈flat css,u.oneCell'=true:=by
 induction css with
 |nil=>simp[flat]
 |cons y l j=>
  have⟨b,f⟩:=j λx m=>h x (DY _ m);have⟨A,z⟩:=(h y BU).cells q;have e:flat (y::l)=y.2++flat l:=by simp[flat]
  rw[e,DT,b,A,DO,Ix];exact⟨Nat.add_comm _ _,λu hu=>(BI.1 hu).elim (z u) (f u)⟩
theorem mI{S:IQ}(q:k<10)(h:∀x∈css,ClT S k x.1 x.2){i:Nat}(hi:i<css.length){j:Nat}{u:AW}(b:css[i].2[j]?=some u):(flat css)[i*k+j]?=some u:=by
 induction css generalizing i with
 |nil=>cases hi
 |cons y l m=>
  have e:flat (y::l)=y.2++flat l:=by simp[flat]
  have⟨f,_⟩:=(h y BU).cells q;rw[e];cases i with
  |zero=>simp only[II]at b;rwa[GZ,ED,LL (BO.1 b).1]|succ i=>rw[I0 (by rw[f,Ix];omega),f,Ix,show i*k+k+j - k=i*k+j by omega];exact m (λx z=>h x (DY _ z)) yEf b
theorem StL.lit(h:StL L g P w bs ts)(css:Ge)(xs:Array AW)(e:AZ)(A:k<10)(l:∀x∈css,(k,x.1,x.2)∈ts)(hx:xs.toList=flat css)(q:tot css<=s)(E:css.length<=1000)(m:n=w.heap.size):StL L g P (w.alloc (.cells xs e)) bs ((k+10,s,[AE (some (AK n 0)) css.length css.length])::ts):=by
 subst m;have z:xs.size=css.length*k:=by obtain⟨S,_,_,_,C⟩:=h;rw[<-Array.length_toList,hx];exact(jR A λx hx=>C _ (l x hx)).1
 have j:=World.ownsRow_lit (base:=w.z) (e:=e) (size:=k) w xs css.length (DK _) CH z;rw[hx]at j
 exact((h.box _).sub (λb f=>f) (λx hx=>by
  rcases BI.1 hx with h|h
  .obtain⟨y,D,rfl⟩:=BM.1 h
   exact l y D
  .exact h)).ice j (λb f=>(h.lt f).2) q (by have:=h.le;omega)
theorem StL.lit1{c:List AW}(h:StL L g P w bs ((k,s,c)::ts))(xs:Array AW)(e:AZ)(j:k<10)(hx:xs.toList=c)(f:n=w.heap.size):StL L g P (w.alloc (.cells xs e)) bs ((k+10,s,[AE (some (AK n 0)) 1 1])::ts):=(h.lit [(s,c)] xs e j (λx hx=>by rw[BB.1 hx];exact E1 ..) (by simp[flat,hx]) (DK s) BU f).sub (λ_ h=>h) λz b=>(BD.1 b).elim (λh=>h ▸ E1 ..) λh=>DY _ (DY _ h)
end
variable {a:Act}{o:Oper}{ops:Array Oper}{s x:Operand}{u v:AW}
def Kd(k t e:Nat):Prop:=k<10/\0<k/\∃i z y,prog.underlying t=some (.slice e)/\prog.info? e=some i/\i.zero=some z/\i.size=k/\i.bytes=y/\y<=1000/\z.cells.size=k
def LF{k t e y:Nat}{z:AW}(b:k<10/\0<k)(hu:prog.underlying t=some (.slice e))(h:(prog.info? e).map (λi=>(i.zero,i.size,i.bytes))=some (some z,k,y))(p:y<=1000)(j:z.cells.size=k):Kd k t e:=by have⟨i,hi,m,f,l⟩:=info_parts h;exact⟨b.1,b.2,i,z,y,hu,hi,m,f,l,p,j⟩
def kd2:Kd 2 57 53:=LF (y:=32) (z:=.agg #[AB 0,AG]) BZ underlying57 BW BZ rfl
def kd4:Kd 4 54 56:=LF (y:=64) (z:=.agg #[AB 0,AB 0,AG,AG]) BZ underlying54 BW BZ rfl
def kd6:Kd 6 25 59:=LF (y:=112) (z:=.agg #[AB 0,AB 0,AG,AG,AG,AG]) BZ underlying25 BW BZ rfl
theorem KR(b o j:Nat):((AK b o):Ab).add j=(AK b (o+j)):=by
 unfold Addr.add;split
 .rename_i h;rw[h];rfl
 rfl
theorem Gf{w:AU}{K:Act->World->Prop}{Q:Exit->Act->World->Prop}{E:Prop}{t:AZ}{Post:AW->World->Prop}(hg:o.guard=none)(h:o.op=.call {callee:=.builtin .append,args:=#[s,x],argTypes:=#[t,t]})
  (hr:∃b w',(Builtin.append_ #[t,t] o.type #[v,u]).run prog w=.ok b w'/\Post b w') (j:a.eval s=v) (hx:a.eval x=u) (l:∀b w',Post b w'->K (a.put o.dst b) w'):
  if Region.wanted o (yielded ops a.tmps)=true then Oper.wp prog o a w K Q else E:=by rw[BR xBs];obtain⟨b,w',f,m⟩:=hr;unfold Oper.wp execOp;simp only[h,resolve,invoke,builtin,Sem.run_bind,Sem.run_pure,Result.andThen_ok,Bb0,DX,FD,j,hx,f];exact l b w' m
theorem Bi{rest:List Oper}{w:AU}{Q:Exit->Act->World->Prop}{t:AZ}{Post:AW->World->Prop}(hg:o.guard=none)(j:o.op=.call {callee:=.builtin .append,args:=#[s,x],argTypes:=#[t,t]})
  (hr:∃b w',(Builtin.append_ #[t,t] o.type #[v,u]).run prog w=.ok b w'/\Post b w') (l:a.eval s=v) (hx:a.eval x=u) (h:∀b w',Post b w'->wpList prog ops Q rest (a.put o.dst b) w'):wpList prog ops Q (o::rest) a w:=by refine wpList_plain hg λK f=>?_;have:=Gf (ops:=#[]) (K:=K) (Q:=Q) (E:=True) hg j hr l hx λb w' m=>f _ _ (h b w' m);rwa [BR (by simp[Region.wanted,hg])]at this
section
variable {L g P Q : Nat}{w w' : AU}{bs cs : List Nat}{ts us : List Nh}{k s : Nat}{v : AW}{css : Ge}{t e B : Nat}
theorem StL.push{c:List Value}(q:TypeId)(X:Kd k t e)(h:StL L g P w (ob v++bs) ((k,s,c)::(rowT k css++ts)))(V:w.ownsRow B e k v css.length (flat css))(Y:B<=w.heap.size)(Z:css.length<=60000):
  ∃l w',(Builtin.append_ #[t,t] q #[v,.slice (some ⟨w.heap.size,0,none⟩) 1 1]).run prog (w.alloc (.cells c.toArray e))=.ok l w'/\w'.ownsRow B e k l (css.length+1) (flat (css++[(s,c)]))/\StL L g P w' (ob l++bs) (rowT k (css++[(s,c)])++ts)/\w.grownBy w' v.ownBlock/\∀b,b<w.heap.size->v.ownBlock≠some b->l.ownBlock≠some b:=by
 obtain⟨K,N,i,z,y,hu,hi,T,J,G,M,F⟩:=X;obtain⟨H,O⟩:c.length=k/\∀u∈c,u.oneCell'=true:=let ⟨S,_,_,_,W⟩:=h;(W _ (E1 ..)).cells K
 have f:(css.length+1)*y<=60001*1000:=Nat.mul_le_mul BS M;obtain⟨l,w',I,C,R,-,j⟩:=run_append_own_at (P:=prog) (w.alloc (.cells c.toArray e)) B t q e i z k y hu hi T J G F N v css.length (flat css) (V.alloc _) ⟨w.heap.size,0,none⟩ 1 1 c (by rw[H,Nat.one_mul]) (by exact Vy _ _ _ _ BU) O CH BS yBd;have m:w.grownBy w' v.ownBlock:=Io (grown_below (Aa _ _) _) R;have A:∀b,v.ownBlock=some b->b∈ob v++bs:=λb f=>J0 _ (by simp[ob,f]);have E:∀x∈rowT k (css++[(s,c)])++ts,x∈(k,s,c)::(rowT k css++ts):=λx D=>by simp only[rowT,D2,DX,FD,FU,EK,FG,FH]at D⊢;rcases D with(h|h)|h;{exact .inr (.inl h)};{exact .inl h};exact .inr (.inr h)
 refine⟨l,w',I,by simpa[flat]using C,?_,m,λb f U e=>?_⟩
 rotate_left
 .rcases j with j|j;{exact U (j ▸ e)};rw[j,World.size_alloc]at e;simp only[E9]at e;omega
 rcases j with j|j
 .exact(h.own m A).sub (λb f=>by rw[ob,j]at f;exact f) E
 refine(h.more m A (n:=w.heap.size+1) (JJ _) (by have:=(C.lt _ j).2;simpa using this)).sub (λb f=>?_) E;rw[ob,j]at f;rcases List.mem_append.1 f with f|f
 .simp at f;rw[f];exact E1 ..
 exact DY _ (EM _ f)
end
open Stil
variable {α:Type}
theorem dc{R:Nat × List AW->α->Prop}{f:α->Nat}:∀(css:Ge),(∀x∈css,∃y,R x y/\f y<=x.1)->∃l:List α,l.length=css.length/\(l.map f).sum<=tot css/\∀i(j:i<css.length)(q:i<l.length),R css[i] l[i]
 |[],_=>⟨[],rfl,DK _,λi h=>absurd h (Nat.not_lt_zero _)⟩
 |x::css,h=>by
  have⟨y,j,q⟩:=h x (E1 ..);have⟨l,m,A,C⟩:=dc css λz p=>h z (DY _ p)
  refine⟨y::l,by rw[DO,DO,m],?_,λi=>?_⟩
  .simp only[tot,DX,FK]at A⊢
   omega
  .cases i with
   |zero=>exact λ_ _=>j
   |succ i=>exact λa b=>C i xCk (by simpa using b)
def lz(l:List α):(l.map λ_=>1).sum=l.length:=by induction l<;>simp_all[Nat.add_comm]
theorem mw{css:Ge}{x:Nat × List AW}(h:x∈css):x.1<=tot css:=by
 induction css with
 |nil=>cases h
 |cons y l b=>simp only[tot,DX,FK]at b⊢;rcases BD.1 h with rfl|h;{omega};have:=b h;omega
def FT(w:AU)(b o:Nat)(cs:List AW):Prop:=∀j u,cs[j]?=some u->w.cell? (AK b (o+j))=some u
section
variable {S : IQ}{w w' : AU}{L g P Q k s : Nat}{v : AW}{cs : List AW}{bs : List Nat}{ts : List Nh}
theorem SlT.all(M:TW S w g)(h:SlT S k s v)(N:k<10){α:Type}(f:α->Nat)(G:α->Prop)(A:Nat->Nat->α->Prop)(hx:∀z cs,z<=s->ClT S k z cs->∃y,(G y/\∀b o,FT w b o cs->A b o y)/\f y<=z):
  ∃l:List α,(∃a c,v=AE a l.length c/\(l.length<=c/\(a=none->c=0))/\∀i(h:i<l.length),∃b o,a=some (AK b o)/\g<b/\b<w.heap.size/\A b (o+i*k) l[i])/\(∀y∈l,G y)/\l.length<=S.1/\(l.map f).sum<=s:=by
 obtain⟨a,n,c,rfl,H,F,W,X⟩:=h;by_cases Y:n=0
 .subst Y;exact⟨[],⟨a,c,rfl,⟨H,W⟩,λi h=>absurd h (Nat.not_lt_zero _)⟩,(λy q=>by cases q),F,EI _⟩
 obtain⟨b,o,m,r,rfl,ab,T,hS⟩:=X BS;have⟨K,Z,css,x3,O,I,U⟩:=M _ _ _ _ _ hS;have J:(css.take n).length=n:=by rw[FN];omega
 have V:tot (css.take n)<=tot css:=by
  rw[tot,tot,List.map_take];conv=>rhs;rw[<-KC n (css.map Prod.fst),KB]
  exact Nat.le_add_right _ _
 have⟨l,j,h2,E⟩:=dc (R:=λx y=>G y/\∀b o,FT w b o x.2->A b o y) (f:=f) (css.take n) λx C=>hx x.1 x.2 (DR (DR (DR (mw C) V) O) T) (I x (List.mem_of_mem_take C));rw[J]at j;refine⟨l,⟨_,c,by rw[j],⟨by rwa[j],(λe=>by cases e)⟩,λi hi=>⟨b,o,rfl,K,Z,?_⟩⟩,λy q=>?_,by rwa[j],BS⟩
 .refine(E i BS hi).2 _ _ λaa u D=>?_;rw[List.getElem_take]at D;rw[Nat.add_assoc];exact U _ _ (mI N I BS D)
 obtain⟨i,hi,rfl⟩:=List.getElem_of_mem q;exact(E i BS hi).1
theorem SlT.devs(y:TW S w g)(h:SlT S 3 s v):∃f,G8 w g v f/\(∀d∈f,Small d)/\f.length<=S.1:=by
 have⟨l,m,q,z,_⟩:=h.all y BZ (λ(_:Stil.DN)=>0) Small (J3 w) λA cs _ h=>by rcases h with⟨_,d,rfl,hd⟩|⟨h,_⟩|⟨h,_⟩|⟨h,_⟩|⟨j,u,h,_⟩;{exact⟨d,⟨hd,λb o h=>⟨h 0 _ rfl,h 1 _ rfl,h 2 _ rfl⟩⟩,EI _⟩};{cases h};{cases h};{cases h};omega
 exact⟨l,m,q,z⟩
def UD{x:Int}(h:Sm x):Stil.i64 x:=⟨by have:=h.1;omega,by have:=h.2;omega⟩
def TN{op:Int}{ds:List Stil.DN}(b:Sm op)(h:∀d∈ds,Small d)(hl:ds.length<=60000):Stil.Elem.fits ⟨op,ds⟩:=⟨UD b,DR hl BZ,λd hd=>(h d hd).fits⟩
theorem SlT.elems(z:TW S w g)(hl:S.1<=60000)(h:SlT S 2 s v):∃f,G6 w v f/\(∀x∈f,Stil.Elem.fits x)/\f.length<=60000/\f.length<=s:=by
 have⟨l,⟨a,c,F,_,I⟩,D,H,E⟩:=h.all z BZ (λ(_:Stil.Elem)=>1) Stil.Elem.fits (JU w) λK cs _ h=>by rcases h with⟨h,_⟩|⟨_,op,v,rfl,G,C,A⟩|⟨h,_⟩|⟨h,_⟩|⟨j,u,h,_⟩;{cases h};{have⟨J,y,m,q⟩:=C.devs z;exact⟨⟨op,J⟩,⟨TN G m (DR q hl),λb o h=>⟨h 0 _ rfl,v,h 1 _ rfl,y.devs⟩⟩,A⟩};{cases h};{cases h};omega
 refine⟨l,⟨a,c,F,λi hi=>let ⟨b,o,y,_,m,q⟩:=I i hi;⟨b,o,y,m,q⟩⟩,D,DR H hl,?_⟩;rwa [lz]at E
theorem ClT.N(y:TW S w g)(hl:S.1<=60000):∀(s:Nat)(cs:List AW),ClT S 4 s cs->∃n,(Cj n/\∀b o,FT w b o cs->P5 w b o n)/\Ac n<=s:=by
 intro s;induction s using Nat.strongRecOn with
 |ind s E=>intro cs h;rcases h with⟨h,_⟩|⟨h,_⟩|⟨_,i,op,v,r,u,rfl,hi,C,z,hu,J⟩|⟨h,_⟩|⟨j,u,h,_⟩;{cases h};{cases h};{have⟨H,q,f,m⟩:=z.devs y;obtain⟨l,⟨a,c,rfl,_,G⟩,A,D,K⟩:=hu.all y BZ Ac Cj (P5 w) λF cs I=>E F BS cs;refine⟨⟨i,⟨op,H⟩,l⟩,⟨(Hg _ _ _).2 ⟨UD hi,TN C f (DR m hl),DR (DR D hl) BZ,A⟩,λb o h=>?_⟩,by rw[Qc];omega⟩;rw[OB];exact⟨h 0 _ rfl,h 1 _ rfl,⟨v,h 2 _ rfl,q.devs⟩,a,c,h 3 _ rfl,λi hi=>let ⟨b,o,q,_,f,m⟩:=G i hi;⟨b,o,q,f,m⟩⟩};{cases h};omega
theorem ClT.A(f:TW S w g)(hl:S.1<=60000):∀(s:Nat)(cs:List AW),ClT S 6 s cs->∃n,(Bh n/\∀b o,FT w b o cs->Ri w b o n)/\Ah n<=s:=by
 intro s;induction s using Nat.strongRecOn with
 |ind s R=>intro cs h;rcases h with⟨h,_⟩|⟨h,_⟩|⟨h,_⟩|⟨_,i,op,v,p,u,q,c,r,d,rfl,hi,K,C,hu,M,hd,W⟩|⟨j,u,h,_⟩;{cases h};{cases h};{cases h};{have⟨n,⟨O,I⟩,Y⟩:=ClT.N f hl _ _ (ClT.mkN hi K C hu (EO p));have⟨y,J,E,z,Z⟩:=M.elems f hl;obtain⟨l,⟨a,F,rfl,_,U⟩,D,N,X⟩:=hd.all f BZ Ah Bh (Ri w) λT cs V=>R T BS cs;refine⟨⟨n,y,l⟩,⟨(Fa _ _ _).2 ⟨O,DR z BZ,E,DR (DR N hl) BZ,D⟩,λb o h=>?_⟩,?_⟩;{rw[Ni];refine⟨I b o λj x m=>h j x ?_,⟨c,h 4 _ rfl,J⟩,a,F,h 5 _ rfl,λi hi=>let ⟨b,o,H,_,A,G⟩:=U i hi;⟨b,o,H,A,G⟩⟩;have hl:j<4:=(BO.1 m).1;rw[<-m];exact LL (l₁:=[_,_,_,_]) (l₂:=[_,_]) hl};rw[S9];split<;>omega};omega
theorem StL.arms(h:StL L g P w bs ts)(G:L<=60000)(z:(16,s,[v])∈ts):∃(l:List Stil.DJ)(a:Option Ab)(c:Nat),v=AE a l.length c/\Dx w v l/\(∀x∈l,Bh x)/\l.length<=60000/\Au l<=s:=by
 obtain⟨S,m,J,_,I⟩:=h;have j:S.1<=60000:=by rwa[J.2.1]
 have⟨l,⟨a,c,f,_,C⟩,A,F,y⟩:=(ClT.sl (I _ z)).all m BZ Ah Bh (Ri w) λH cs _=>ClT.A m j H cs;exact⟨l,a,c,f,⟨a,c,f,λi hi=>let ⟨b,o,E,_,q,D⟩:=C i hi;⟨b,o,E,q,D⟩⟩,A,DR F j,y⟩
def js(ds:List Stil.DN):flat (ds.map λd=>(0,[AB d.kind,AB d.n,AB d.p]))=Dh ds/\tot (ds.map λd=>(0,[AB d.kind,AB d.n,AB d.p]))=0:=by induction ds<;>simp_all[flat,tot,Dh,Uu]
theorem StL.el{e:Ending}{n:Nat}(h:StL L g P w bs ts)(H:LQ e w w' g Q n)(O:n<=L):∃op a n c,e=.returned (.agg #[AB op,AE a n c])/\StL L g Q w' bs ((2,1,[AB op,AE a n c])::ts)/\w.grownBy w' (some g):=by
 obtain⟨op,v,l,rfl,C,D,F,M,A,m⟩:=H;obtain⟨a,c,rfl,q,f⟩:=id D;refine⟨op,a,l.length,c,rfl,?_,m⟩;by_cases E:l.length=0
 .rw[E]at q⊢;exact(h.go A m).add λS _=>ClT.mkE C ⟨a,0,c,rfl,EI _,EI _,q.2,λh=>absurd h BZ⟩
 obtain⟨b,o,rfl,N,J,_⟩:=f 0 BS;have⟨K,G⟩:=js l
 have I:=StL.typ (k:=3) (s:=0) (n:=l.length) (c:=c) (o:=o) (h.moreG m (λb e=>.inl (by cases e;rfl)) A BS J) (λf=>by have:=(h.lt f).2;omega) (l.map λd=>(0,[AB d.kind,AB d.n,AB d.p])) (λS _ x f=>by
  obtain⟨d,hd,rfl⟩:=BM.1 f;exact .inl ⟨rfl,d,rfl,F d hd⟩) (λj u z=>by
  rw[K]at z;have:=TM D j u z
  rwa [KR] at this) (by rw[G];exact DK _) BU q.1 BS
 exact(I.add (y:=(2,1,_)) λS hS=>ClT.mkE C (ClT.sl (hS _ (E1 ..)))).sub (λ_ h=>h) (λx f=>(BD.1 f).elim (λh=>h ▸ E1 ..) λh=>DY _ (DY _ h))
def E3(w:AU)(b:Nat):Nat->List AW->World
 |_,[]=>w
 |o,x::l=>E3 (w.setCell (AK b o) x) b (o+1) l
def Y9(xs:List AW):Nat->List AW->List AW
 |_,[]=>xs
 |o,x::l=>Y9 (xs.set o x) (o+1) l
theorem N4{B e b n c:Nat}:∀(l:List AW)(w:AU)(o:Nat)(f:List AW),w.ownsRow B e k (AE (some (AK b 0)) n c) n f->(E3 w b o l).ownsRow B e k (AE (some (AK b 0)) n c) n (Y9 f o l)
 |[],_,_,_,h=>h
 |x::l,_w,o,_f,h=>N4 l _ (o+1) _ (h.stored o x).1
theorem Yu(a t:List AW):∀(l:List AW)(o:Nat),Y9 (a++t) (a.length+o) l=a++Y9 t o l:=by
 intro l;induction l generalizing t with
 |nil=>exact λ_=>rfl|cons x l b=>intro o;rw[Y9,Y9,List.set_append_right _ _ BS,Nat.add_sub_cancel_left,Nat.add_assoc,b]
theorem QZ(l:List AW):∀(a t:List AW),a.length=l.length->Y9 (a++t) 0 l=l++t:=by
 induction l with
 |nil=>intro a t h;rw[BL.1 h];rfl
 |cons x l b=>
  intro a t h;cases a with
  |nil=>cases h
  |cons y a=>exact(Yu [x] (a++t) l 0).tr (by rw[b a t C5];rfl)
theorem YB{b:Nat}:∀(l:List AW)(w:AU)(o:Nat),w.grownBy (E3 w b o l) (some b)
 |[],w,_=>Lc w _
 |x::l,w,o=>Io (I5 w b o x) (YB l _ (o+1))
end
variable {o:Nat}{v:AW}{w':AU}
def Gt(P:Nat->Prop)(w w':World):Prop:=w.heap.size<=w'.heap.size/\∀b o,P b->b<w.heap.size->w'.cell? ⟨b,o,none⟩=w.cell? ⟨b,o,none⟩
theorem Gt.trans{P:Nat->Prop}{a b c:AU}(h1:Gt P a b)(f:Gt P b c):Gt P a c:=
 ⟨DR h1.1 f.1,λx o j h=>(f.2 x o j (DL h h1.1)).tr (h1.2 x o j h)⟩
abbrev Gt.tr:=@Gt.trans
theorem Gt.of_below{P:Nat->Prop}{w:AU}(h:AO w w'):Gt P w w':=⟨h.size,λb o _ f=>h.cell (p:=(AK b o)) f⟩
theorem Gt.set {P:Nat->Prop}{w:World}{b:Nat}(f:¬P b)(v:Value):Gt P w (w.setCell ⟨b,o,none⟩ v):=⟨((Below.refl 0 w).setCell (EI _) v).size,λx p h _=>by
 have j:¬x=b:=λe=>f (e ▸ h)
 have l:¬b=x:=λe=>f (e ▸ h)
 simp[go_sem]⟩
def Fo(a:Option Ab)(n cap:Nat):Prop:=n<=cap/\(a=none->cap=0)
def Jg(P:Nat->Prop)(w:AU)(v:AW)(ds:List Stil.DN):Prop:=∃a cap,v=AE a ds.length cap/\Fo a ds.length cap/\∀i(h:i<ds.length),∃b o,a=some (AK b o)/\P b/\b<w.heap.size/\J3 w b (o+i*3) ds[i]
def J3.keepIn{P:Nat->Prop}{w:AU}{b:Nat}{d:Stil.DN}(h:J3 w b o d)(j:Gt P w w')(hl:P b)(f:b<w.heap.size):J3 w' b o d:=by obtain⟨l,m,p⟩:=h;exact⟨by rwa[j.2 _ _ hl f],by rwa[j.2 _ _ hl f],by rwa[j.2 _ _ hl f]⟩
theorem Jg.keep{P:Nat->Prop}{w:AU}{ds:List Stil.DN}(h:Jg P w v ds)(j:Gt P w w'):Jg P w' v ds:=by obtain⟨a,cap,p,y,q⟩:=h;refine⟨a,cap,p,y,λi hi=>?_⟩;have⟨b,o,m,l,f,hd⟩:=q i hi;exact⟨b,o,m,l,DL f j.1,hd.keepIn j l f⟩
theorem Jg.mono{P Q:Nat->Prop}{w:AU}{ds:List Stil.DN}(h:Jg Q w v ds)(hl:∀b,b<w.heap.size->Q b->P b):Jg P w v ds:=by obtain⟨a,cap,m,q,p⟩:=h;refine⟨a,cap,m,q,λi hi=>?_⟩;have⟨b,o,j,l,f,hd⟩:=p i hi;exact⟨b,o,j,hl _ f l,f,hd⟩
abbrev Jg.mo:=@Jg.mono
theorem Jg.at{P:Nat->Prop}{w:AU}{ds:List Stil.DN}(h:Jg P w v ds):Ar w v ds:=by obtain⟨a,cap,l,q,m⟩:=h;refine⟨a,cap,l,λi hi=>?_⟩;have⟨b,o,j,p,f,hd⟩:=m i hi;exact⟨b,o,j,f,hd⟩
def Ru(P:Nat->Prop)(w:AU):Nat->Nat->Stil.DI->Prop
 |b,o,⟨k,e,kids⟩=>w.cell? (AK b o)=some (AB k)/\w.cell? (AK b (o+1))=some (AB e.op)/\
   (∃j,w.cell? (AK b (o+2))=some j/\Jg P w j e.args)/\
   ∃a cap,w.cell? (AK b (o+3))=some (AE a kids.length cap)/\Fo a kids.length cap/\∀i(h:i<kids.length),∃f l,a=some (AK f l)/\P f/\f<w.heap.size/\
    (have:=MS (DW h);Ru P w f (l+i*4) kids[i])
def OA (P:Nat->Prop)(w:AU)(b o:Nat)(k:Int)(e:Stil.Elem)(kids:List Stil.DI):Ru P w b o ⟨k,e,kids⟩=(w.cell? (AK b o)=some (AB k)/\w.cell? (AK b (o+1))=some (AB e.op)/\
   (∃j,w.cell? (AK b (o+2))=some j/\Jg P w j e.args)/\
   ∃a cap,w.cell? (AK b (o+3))=some (AE a kids.length cap)/\Fo a kids.length cap/\∀i (h:i<kids.length),∃f l,a=some (AK f l)/\P f/\f<w.heap.size/\Ru P w f (l+i*4) kids[i]):=by rw[Ru]
def Zt(P:Nat->Prop)(w:AU)(v:AW)(ns:List Stil.DI):Prop:=∃a cap,v=AE a ns.length cap/\Fo a ns.length cap/\∀i(h:i<ns.length),∃b o,a=some (AK b o)/\P b/\b<w.heap.size/\Ru P w b (o+i*4) ns[i]
theorem NZ (P:Nat->Prop)(w:AU)(b o:Nat)(n:Stil.DI):Ru P w b o n↔(w.cell? (AK b o)=some (AB n.kind)/\w.cell? (AK b (o+1))=some (AB n.O.op)/\
   (∃q,w.cell? (AK b (o+2))=some q/\Jg P w q n.O.args)/\∃y,w.cell? (AK b (o+3))=some y/\Zt P w y n.K):=by
 obtain⟨k,e,kids⟩:=n;rw[OA];constructor
 .rintro⟨f,j,h,a,cap,l,p,m⟩;exact⟨f,j,h,_,l,a,cap,rfl,p,m⟩
 rintro⟨f,j,h,_,l,a,cap,rfl,p,m⟩;exact⟨f,j,h,a,cap,l,p,m⟩
def zs0{p:Prop}(h:p:=by have⟨b',o',ha,hlo,hl',hn⟩:=h6 i hi;exact⟨b',o',ha,hlo,DL hl' hk.1,ih _ (DW hi) b' _ hn hlo hl'⟩):p:=h
theorem Ru.keep{P:Nat->Prop}{w:AU}(hk:Gt P w w'):∀(n:Stil.DI)(b o:Nat),Ru P w b o n->P b->b<w.heap.size->Ru P w' b o n:=by
 intro n;induction n using Gs with
 |h k e kids ih=>intro b o h j f;rw[OA]at h⊢;obtain⟨y,l,⟨z,A,C⟩,a,cap,m,q,h6⟩:=h;refine⟨?_,?_,⟨z,?_,C.keep hk⟩,a,cap,?_,q,λi hi=>?_⟩;{rwa[hk.2 _ _ j f]};{rwa[hk.2 _ _ j f]};{rwa[hk.2 _ _ j f]};{rwa[hk.2 _ _ j f]};exact zs0
theorem Zt.keep{P:Nat->Prop}{w:AU}{ns:List Stil.DI}(h:Zt P w v ns)(j:Gt P w w'):Zt P w' v ns:=by obtain⟨a,cap,p,y,q⟩:=h;refine⟨a,cap,p,y,λi hi=>?_⟩;have⟨b,o,m,l,f,hd⟩:=q i hi;exact⟨b,o,m,l,DL f j.1,Ru.keep j _ _ _ hd l f⟩
theorem Ru.mono{P Q:Nat->Prop}{w:AU}(hl:∀b,b<w.heap.size->Q b->P b):∀(n:Stil.DI)(b o:Nat),Ru Q w b o n->Ru P w b o n:=by
 intro n;induction n using Gs with
 |h k e kids F=>intro b o h;rw[OA]at h⊢;obtain⟨z,p,⟨A,C,H⟩,a,cap,q,y,m⟩:=h;refine⟨z,p,⟨A,C,H.mo hl⟩,a,cap,q,y,λi hi=>?_⟩;have⟨j,G,l,D,f,E⟩:=m i hi;exact⟨j,G,l,hl _ f D,f,F _ (DW hi) j _ E⟩
abbrev Ru.mo:=@Ru.mono
theorem Ru.at{P:Nat->Prop}{w:AU}:∀(n:Stil.DI)(b o:Nat),Ru P w b o n->P5 w b o n:=by
 intro n;induction n using Gs with
 |h k e kids D=>intro b o h;rw[OA]at h;rw[OB];obtain⟨y,p,⟨z,A,F⟩,a,cap,q,G,m⟩:=h;refine⟨y,p,⟨z,A,F.at⟩,a,cap,q,λi hi=>?_⟩;have⟨f,E,j,H,l,C⟩:=m i hi;exact⟨f,E,j,l,D _ (DW hi) f _ C⟩
theorem Zt.at{P:Nat->Prop}{w:AU}{ns:List Stil.DI}(h:Zt P w v ns):Fe w v ns:=by obtain⟨a,cap,l,q,m⟩:=h;refine⟨a,cap,l,λi hi=>?_⟩;have⟨b,o,j,p,f,hd⟩:=m i hi;exact⟨b,o,j,f,Ru.at _ _ _ hd⟩
def OX(P:Nat->Prop)(w:AU)(b o:Nat)(e:Stil.Elem):Prop:=w.cell? (AK b o)=some (AB e.op)/\∃f,w.cell? (AK b (o+1))=some f/\Jg P w f e.args
def Py(P:Nat->Prop)(w:AU)(v:AW)(es:List Stil.Elem):Prop:=∃a cap,v=AE a es.length cap/\Fo a es.length cap/\∀i(h:i<es.length),∃b o,a=some (AK b o)/\P b/\b<w.heap.size/\OX P w b (o+i*2) es[i]
def OX.keep{P:Nat->Prop}{w:AU}{b:Nat}{e:Stil.Elem}(h:OX P w b o e)(f:Gt P w w')(hl:P b)(j:b<w.heap.size):OX P w' b o e:=by obtain⟨l,p,m,q⟩:=h;exact⟨by rwa[f.2 _ _ hl j],p,by rwa[f.2 _ _ hl j],q.keep f⟩
theorem Py.keep{P:Nat->Prop}{w:AU}{es:List Stil.Elem}(h:Py P w v es)(j:Gt P w w'):Py P w' v es:=by obtain⟨a,cap,p,y,q⟩:=h;refine⟨a,cap,p,y,λi hi=>?_⟩;have⟨b,o,m,l,f,hd⟩:=q i hi;exact⟨b,o,m,l,DL f j.1,hd.keep j l f⟩
theorem Py.mono{P Q:Nat->Prop}{w:AU}{es:List Stil.Elem}(h:Py Q w v es)(hl:∀b,b<w.heap.size->Q b->P b):Py P w v es:=by obtain⟨a,cap,q,C,y⟩:=h;refine⟨a,cap,q,C,λi hi=>?_⟩;have⟨b,o,l,m,f,j,p,A,z⟩:=y i hi;exact⟨b,o,l,hl _ f m,f,j,p,A,z.mo hl⟩
abbrev Py.mo:=@Py.mono
theorem Py.at{P:Nat->Prop}{w:AU}{es:List Stil.Elem}(h:Py P w v es):G6 w v es:=by obtain⟨a,cap,m,C,q⟩:=h;refine⟨a,cap,m,λi hi=>?_⟩;have⟨b,o,j,A,y,f,l,z,p⟩:=q i hi;exact⟨b,o,j,y,f,l,z,p.at⟩
def Wi(P:Nat->Prop)(w:AU):Nat->Nat->Stil.DJ->Prop
 |b,o,⟨n,m,kids⟩=>Ru P w b o n/\(∃j,w.cell? (AK b (o+4))=some j/\Py P w j m)/\
   ∃a cap,w.cell? (AK b (o+5))=some (AE a kids.length cap)/\Fo a kids.length cap/\∀i(h:i<kids.length),∃f l,a=some (AK f l)/\P f/\f<w.heap.size/\
    (have:=MS (DW h);Wi P w f (l+i*6) kids[i])
def OC (P:Nat->Prop)(w:AU)(b o:Nat)(n:Stil.DI)(m:List Stil.Elem)(kids:List Stil.DJ):Wi P w b o ⟨n,m,kids⟩=(Ru P w b o n/\(∃j,w.cell? (AK b (o+4))=some j/\Py P w j m)/\
   ∃a cap,w.cell? (AK b (o+5))=some (AE a kids.length cap)/\Fo a kids.length cap/\∀i (h:i<kids.length),∃f l,a=some (AK f l)/\P f/\f<w.heap.size/\Wi P w f (l+i*6) kids[i]):=by rw[Wi]
def Uh(P:Nat->Prop)(w:AU)(v:AW)(l:List Stil.DJ):Prop:=∃a cap,v=AE a l.length cap/\Fo a l.length cap/\∀i(h:i<l.length),∃b o,a=some (AK b o)/\P b/\b<w.heap.size/\Wi P w b (o+i*6) l[i]
theorem cQ(P:Nat->Prop)(w:AU)(b o:Nat)(n:Stil.DJ):Wi P w b o n↔(Ru P w b o n.N/\(∃p,w.cell? (AK b (o+4))=some p/\Py P w p n.C)/\∃q,w.cell? (AK b (o+5))=some q/\Uh P w q n.K):=by
 obtain⟨k,e,kids⟩:=n;rw[OC];constructor
 .rintro⟨f,h,a,cap,j,m,l⟩;exact⟨f,h,_,j,a,cap,rfl,m,l⟩
 rintro⟨f,h,_,j,a,cap,rfl,m,l⟩;exact⟨f,h,a,cap,j,m,l⟩
theorem Wi.keep{P:Nat->Prop}{w:AU}(hk:Gt P w w'):∀(n:Stil.DJ)(b o:Nat),Wi P w b o n->P b->b<w.heap.size->Wi P w' b o n:=by
 intro n;induction n using Fv with
 |h n C kids ih=>intro b o h j f;rw[OC]at h⊢;obtain⟨y,⟨l,z,A⟩,a,cap,m,q,h6⟩:=h;refine⟨Ru.keep hk _ _ _ y j f,⟨l,?_,A.keep hk⟩,a,cap,?_,q,λi hi=>?_⟩;{rwa[hk.2 _ _ j f]};{rwa[hk.2 _ _ j f]};exact zs0
theorem Uh.keep{P:Nat->Prop}{w:AU}{ns:List Stil.DJ}(h:Uh P w v ns)(j:Gt P w w'):Uh P w' v ns:=by obtain⟨a,cap,p,y,q⟩:=h;refine⟨a,cap,p,y,λi hi=>?_⟩;have⟨b,o,m,l,f,hd⟩:=q i hi;exact⟨b,o,m,l,DL f j.1,Wi.keep j _ _ _ hd l f⟩
theorem Wi.mono{P Q:Nat->Prop}{w:AU}(hl:∀b,b<w.heap.size->Q b->P b):∀(n:Stil.DJ)(b o:Nat),Wi Q w b o n->Wi P w b o n:=by
 intro n;induction n using Fv with
 |h n H kids E=>intro b o h;rw[OC]at h⊢;obtain⟨z,⟨m,A,G⟩,a,cap,q,y,p⟩:=h;refine⟨Ru.mo hl _ _ _ z,⟨m,A,G.mo hl⟩,a,cap,q,y,λi hi=>?_⟩;have⟨j,F,l,C,f,D⟩:=p i hi;exact⟨j,F,l,hl _ f C,f,E _ (DW hi) j _ D⟩
abbrev Wi.mo:=@Wi.mono
theorem Uh.mono{P Q:Nat->Prop}{w:AU}{ns:List Stil.DJ}(h:Uh Q w v ns)(hl:∀b,b<w.heap.size->Q b->P b):Uh P w v ns:=by obtain⟨a,cap,m,q,p⟩:=h;refine⟨a,cap,m,q,λi hi=>?_⟩;have⟨b,o,j,l,f,hd⟩:=p i hi;exact⟨b,o,j,hl _ f l,f,Wi.mo hl _ _ _ hd⟩
abbrev Uh.mo:=@Uh.mono
theorem Wi.at{P:Nat->Prop}{w:AU}:∀(n:Stil.DJ)(b o:Nat),Wi P w b o n->Ri w b o n:=by
 intro n;induction n using Fv with
 |h n G kids C=>intro b o h;rw[OC]at h;rw[Ni];obtain⟨y,⟨m,z,E⟩,a,cap,q,F,p⟩:=h;refine⟨Ru.at _ _ _ y,⟨m,z,E.at⟩,a,cap,q,λi hi=>?_⟩;have⟨f,D,j,H,l,A⟩:=p i hi;exact⟨f,D,j,l,C _ (DW hi) f _ A⟩
theorem Uh.at{P:Nat->Prop}{w:AU}{ns:List Stil.DJ}(h:Uh P w v ns):Dx w v ns:=by obtain⟨a,cap,l,q,m⟩:=h;refine⟨a,cap,l,λi hi=>?_⟩;have⟨b,o,j,p,f,hd⟩:=m i hi;exact⟨b,o,j,f,Wi.at _ _ _ hd⟩
theorem L2{w:AU}{base s n:Nat}{e:AZ}{xs:List AW}(h:w.ownsRow base e s v n xs):∃a cap,v=AE a n cap/\Fo a n cap/\(∀b o sp,a=some ⟨b,o,sp⟩->o=0/\sp=none/\v.ownBlock=some b/\base<=b/\b<w.heap.size/\∀j u,xs[j]?=some u->w.cell? (AK b j)=some u)/\(0<n->a≠none):=by
 rcases h.2 with⟨y,A⟩|⟨g,cap,cur,l,D,G,C,F⟩
 .have E:=A;subst E;exact⟨none,0,y,⟨DK _,λ_=>rfl⟩,λb o sp f=>(by cases f),λz=>absurd z BS⟩
 refine⟨_,cap,l,⟨C,λf=>(by cases f)⟩,λb o sp f=>?_,λ_ f=>(by cases f)⟩;simp only[E9,Addr.mk.injEq]at f;obtain⟨rfl,rfl,rfl⟩:=f;have q:v.b=some g:=by rw[l];rfl
 refine⟨rfl,rfl,q,D,(h.lt g q).2,λj u m=>?_⟩;have H:=(BO.1 m).1;subst l;have:=h.cellAt j (by have:=h.1;omega);rwa[this]
def Le{w:AU}{g:Nat}{ds:List Stil.DN}(h:G8 w g v ds):Jg (λb=>g<b) w v ds:=h
def jn(P:Nat->Prop)(w:AU):Jg P w AG []:=⟨none,0,rfl,⟨DK _,λ_=>rfl⟩,λi hi=>by simp at hi⟩
def NC(e:Stil.Elem):Prop:=(-1000000<=e.op/\e.op<=1000000)/\(∀d∈e.args,Small d)/\e.args.length<=100000
def NC.wf{e:Stil.Elem}(h:NC e):e.wf:=⟨⟨by have:=h.1.1;omega,by have:=h.1.2;omega⟩,by have:=h.2.2;omega,λd hd=>(h.2.1 d hd).fits⟩
