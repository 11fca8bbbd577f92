import Derived.Test.YthdogflpbpkbeaaGreatDoorD9
import Derived.Test.YthdogflpbpkbeaaGreatDoorGg
set_option linter.defProp false
namespace Go.Proofs.YthdogflpbpkbeaaGreatDoor
open Tryz Go.RowKit Go.Sort Go.BigFrame
abbrev IX:=Nat × (Nat->Option (Nat × Nat × Nat × Nat))
abbrev Nk:=Nat × Nat × Θ
abbrev G1:=List (Nat × Θ)
def SlT(S:IX)(k s:Nat)(v:AW):Prop:=∃a n c,v=AE a n c/\n<=c/\n<=S.1/\(a=none->c=0)/\(0<n->∃b o m r,a=some (AK b o)/\n<=m/\r<=s/\S.2 b=some (k,r,m,o))
abbrev Sm(x:Int):Prop:=-1000000<=x/\x<=1000000
def ClT(S:IX)(k s:Nat)(cs:Θ):Prop:=
 (k=3/\∃d:Stil.DR,cs=[AB d.kind,AB d.n,AB d.p]/\Small d)\/
 (k=2/\∃op v,cs=[AB op,v]/\Sm op/\SlT S 3 0 v/\0<s)\/
 (k=4/\∃i op v r u,cs=[AB i,AB op,v,u]/\Sm i/\Sm op/\SlT S 3 0 v/\SlT S 4 r u/\r<s)\/
 (k=6/\∃i op v p u q c r d,cs=[AB i,AB op,v,u,c,d]/\Sm i/\Sm op/\SlT S 3 0 v/\SlT S 4 p u/\SlT S 2 q c/\SlT S 6 r d/\p+q+r+1<s)\/
 ∃j v,k=j+10/\cs=[v]/\SlT S j s v
def Up(S S':IX):Prop:=S.1<=S'.1/\∀b x,S.2 b=some x->S'.2 b=some x
section
variable {c d u:AW}{i op:Int}{r:Nat}
variable {S S' : IX}{k s : Nat}{v : AW}{cs : Θ}
theorem SlT.up(h:SlT S k s v)(u:Up S S'):SlT S' k s v:=
 let ⟨a,n,c,j,l,A,p,f⟩:=h
 ⟨a,n,c,j,l,DU A u.1,p,λh=>let ⟨b,o,m,r,x,y,q,z⟩:=f h;⟨b,o,m,r,x,y,q,u.2 _ _ z⟩⟩
theorem SlT.grew{t:Nat}(h:SlT S k s v)(p:s<=t):SlT S k t v:=
 let ⟨a,n,c,j,l,C,q,f⟩:=h
 ⟨a,n,c,j,l,C,q,λh=>let ⟨b,o,m,r,x,y,A,z⟩:=f h;⟨b,o,m,r,x,y,DU A p,z⟩⟩
theorem ClT.up(h:ClT S k s cs)(u:Up S S'):ClT S' k s cs:=by
 rcases h with h|⟨h,op,v,b,f,l,m⟩|⟨h,i,op,v,r,x,b,f,l,m,y,z⟩|⟨h,i,op,v,p,x,q,c,r,d,b,f,l,m,y,z,C,A⟩|⟨j,v,b,f,l⟩
 .exact .inl h
 .exact .inr (.inl ⟨h,op,v,b,f,l.up u,m⟩)
 .exact .inr (.inr (.inl ⟨h,i,op,v,r,x,b,f,l,m.up u,y.up u,z⟩))
 .exact .inr (.inr (.inr (.inl ⟨h,i,op,v,p,x,q,c,r,d,b,f,l,m.up u,y.up u,z.up u,C.up u,A⟩)))
 exact .inr (.inr (.inr (.inr ⟨j,v,b,f,l.up u⟩)))
theorem ClT.cells(h:ClT S k s cs)(m:k<10):cs.length=k/\∀u∈cs,u.oneCell'=true:=by rcases h with⟨rfl,d,rfl,_⟩|⟨rfl,op,v,rfl,_,⟨_,_,_,rfl,_⟩,_⟩|⟨rfl,i,op,v,r,x,rfl,_,_,⟨_,_,_,rfl,_⟩,⟨_,_,_,rfl,_⟩,_⟩|⟨rfl,i,op,v,p,x,q,c,r,d,rfl,_,_,⟨_,_,_,rfl,_⟩,⟨_,_,_,rfl,_⟩,⟨_,_,_,rfl,_⟩,⟨_,_,_,rfl,_⟩,_⟩|⟨j,v,b,f,l⟩;all_goals first|exact⟨rfl,by simp[Value.oneCell']⟩|omega
theorem ClT.sl(h:ClT S (k+10) s [v]):SlT S k s v:=by
 rcases h with⟨h,_⟩|⟨h,_⟩|⟨h,_⟩|⟨h,_⟩|⟨j,u,l,b,f⟩
 .omega
 .omega
 .omega
 .omega
 cases b;obtain rfl:k=j:=BS;exact f
def SlT.cl(h:SlT S k s v):ClT S (k+10) s [v]:=.inr (.inr (.inr (.inr ⟨k,v,rfl,rfl,h⟩)))
def SlT.nil:SlT S k s AG:=⟨none,0,0,rfl,DN _,EH _,λ_=>rfl,λh=>absurd h BX⟩
theorem ClT.el(h:ClT S 2 s [AB op,v]):Sm op/\SlT S 3 0 v:=by
 rcases h with⟨h,_⟩|⟨_,x,y,h,b,f,_⟩|⟨h,_⟩|⟨h,_⟩|⟨j,u,b,_⟩
 .cases h
 .cases h;exact⟨b,f⟩
 .cases h
 .cases h
 omega
theorem ClT.nt(h:ClT S 4 s [AB i,AB op,v,u]):∃r,Sm i/\Sm op/\SlT S 3 0 v/\SlT S 4 r u/\r<s:=by
 rcases h with⟨h,_⟩|⟨h,_⟩|⟨_,_,_,_,r,_,h,b⟩|⟨h,_⟩|⟨j,u,b,_⟩
 .cases h
 .cases h
 .cases h;exact⟨r,b⟩
 .cases h
 omega
theorem ClT.am(h:ClT S 6 s [AB i,AB op,v,u,c,d]):∃p q r,Sm i/\Sm op/\SlT S 3 0 v/\SlT S 4 p u/\SlT S 2 q c/\SlT S 6 r d/\p+q+r+1<s:=by
 rcases h with⟨h,_⟩|⟨h,_⟩|⟨h,_⟩|⟨_,_,_,_,p,_,q,_,r,_,h,b⟩|⟨j,u,b,_⟩
 .cases h
 .cases h
 .cases h
 .cases h;exact⟨p,q,r,b⟩
 omega
theorem ClT.grew{t:Nat}(h:ClT S k s cs)(A:s<=t):ClT S k t cs:=by
 rcases h with h|⟨h,op,v,b,f,l,m⟩|⟨h,i,op,v,r,x,b,f,l,m,y,z⟩|⟨h,i,op,v,p,x,q,c,r,d,b,f,l,m,y,z,C,D⟩|⟨j,v,b,f,l⟩
 .exact .inl h
 .exact .inr (.inl ⟨h,op,v,b,f,l,BS⟩)
 .exact .inr (.inr (.inl ⟨h,i,op,v,r,x,b,f,l,m,y,BS⟩))
 .exact .inr (.inr (.inr (.inl ⟨h,i,op,v,p,x,q,c,r,d,b,f,l,m,y,z,C,BS⟩)))
 exact .inr (.inr (.inr (.inr ⟨j,v,b,f,l.grew A⟩)))
def ClT.mkE(h:Sm op)(h1:SlT S 3 0 v):ClT S 2 1 [AB op,v]:=.inr (.inl ⟨rfl,op,v,rfl,h,h1,Nat.one_pos⟩)
def ClT.mkN(h:Sm i)(h1:Sm op)(j:SlT S 3 0 v)(b:SlT S 4 r u)(f:r<s):ClT S 4 s [AB i,AB op,v,u]:=.inr (.inr (.inl ⟨rfl,i,op,v,r,u,rfl,h,h1,j,b,f⟩))
def ClT.mkA{p q:Nat}(h:Sm i)(h1:Sm op)(f:SlT S 3 0 v)(j:SlT S 4 p u)(b:SlT S 2 q c)(m:SlT S 6 r d)(l:p+q+r+1<s):ClT S 6 s [AB i,AB op,v,u,c,d]:=.inr (.inr (.inr (.inl ⟨rfl,i,op,v,p,u,q,c,r,d,rfl,h,h1,f,j,b,m,l⟩)))
end
def flat(css:G1):Θ:=(css.map Prod.snd).flatten
def tot(css:G1):Nat:=(css.map Prod.fst).sum
def TW(S:IX)(w:AU)(g:Nat):Prop:=∀b k s m o,S.2 b=some (k,s,m,o)->g<b/\b<w.heap.size/\∃css:G1,css.length=m/\tot css<=s/\(∀x∈css,ClT S k x.1 x.2)/\∀j u,(flat css)[j]?=some u->w.cell? (AK b (o+j))=some u
def TW.grow{S:IX}{w w':AU}{g:Nat}{r:ε}(h:TW S w g)(hg:w.grownBy w' r)(hr:∀b,r=some b->b=g\/S.2 b=none):TW S w' g:=by intro b k s m o f;have⟨C,l,css,y,p,A,q⟩:=h b k s m o f;refine⟨C,DO l hg.size,css,y,p,A,λj u z=>?_⟩;rw[BE (hg.block b l λe=>(hr b e.symm).elim (λh=>by omega) λh=>by rw[h]at f;cases f)];exact q j u z
def StL(L g P:Nat)(w:AU)(bs:Γ)(ts:List Nk):Prop:=∃S:IX,TW S w g/\(Kw w g P/\S.1=L/\50000<=L)/\(∀b∈bs,g<b/\b<w.heap.size/\S.2 b=none)/\∀x∈ts,ClT S x.1 x.2.1 x.2.2
abbrev St:=StL 50000
def rowT(k:Nat)(css:G1):List Nk:=css.map λx=>(k,x.1,x.2)
def ob(v:AW):Γ:=v.ownBlock.toList
section
variable {n o:Nat}{r:ε}
variable {L g P Q : Nat}{w w' : AU}{bs cs : Γ}{ts us : List Nk}{k s : Nat}{v : AW}{css : G1}
def StL.rd(h:StL L g P w bs ts):Kw w g P:=let ⟨_,_,h,_⟩:=h;h.1
def StL.grow(h:StL L g P w bs ts)(hg:w.grownBy w' r)(hr:∀b,r=some b->b=g\/b∈bs)(q:Kw w' g Q):StL L g Q w' bs ts:=
 let ⟨S,m,p,f,l⟩:=h
 ⟨S,m.grow hg λb e=>(hr b e).imp id λh=>(f b h).2.2,⟨q,p.2⟩,λb j=>⟨(f b j).1,DO (f b j).2.1 hg.size,(f b j).2.2⟩,l⟩
theorem StL.go(h:StL L g P w bs ts)(f:Kw w' g Q)(hg:w.grownBy w' (some g)):StL L g Q w' bs ts:=h.grow hg (λb e=>.inl (by cases e;rfl)) f
def StL.lt(h:StL L g P w bs ts){b:Nat}(f:b∈bs):g<b/\b<w.heap.size:=let ⟨_,_,_,h,_⟩:=h;⟨(h b f).1,(h b f).2.1⟩
def StL.own(h:StL L g P w bs ts)(hg:w.grownBy w' r)(hr:∀b,r=some b->b∈bs):StL L g P w' bs ts:=h.grow hg (λb e=>.inr (hr b e)) (Qs h.rd hg λb e=>(h.lt (hr b e)).1)
theorem StL.alloc(h:StL L g P w bs ts)(o:Obj):StL L g P (w.alloc o) bs ts:=h.own (grown_below (Aa w o) none) (λb e=>by cases e)
theorem StL.bel(h:StL L g P w bs ts)(f:AO w w'):StL L g P w' bs ts:=h.own (grown_below f none) (λb e=>by cases e)
def StL.drew(h:StL L g P w bs ts):StL L g P w.drew bs ts:=h
theorem StL.set{b:Nat}{x:AW}(h:StL L g P w bs ts)(f:b∈bs):StL L g P (w.setCell (AK b o) x) bs ts:=h.own (Ho w b o x) (λc e=>by cases e;exact f)
def StL.mono(h:StL L g P w bs ts)(l:P<=Q):StL L g Q w bs ts:=let ⟨S,j,b,m,f⟩:=h;⟨S,j,⟨Iw b.1 l,b.2⟩,m,f⟩
abbrev StL.mo:=@StL.mono
def StL.sub(h:StL L g P w bs ts)(q:∀b∈cs,b∈bs)(y:∀x∈us,x∈ts):StL L g P w cs us:=let ⟨S,l,m,p,j⟩:=h;⟨S,l,m,λb f=>p b (q b f),λx f=>j x (y x f)⟩
def StL.add(h:StL L g P w bs ts){y:Nk}(m:∀S,(∀x∈ts,ClT S x.1 x.2.1 x.2.2)->ClT S y.1 y.2.1 y.2.2):StL L g P w bs (y::ts):=let ⟨S,f,j,l,b⟩:=h;⟨S,f,j,l,BA.2 ⟨m S b,b⟩⟩
theorem StL.moreG(h:StL L g P w bs ts)(hg:w.grownBy w' r)(hr:∀b,r=some b->b=g\/b∈bs)(y:Kw w' g Q)(A:w.heap.size<=n)(z:n<w'.heap.size):StL L g Q w' (n::bs) ts:=by
 have C:=Je h.rd;obtain⟨S,l,q,f,m⟩:=h;refine⟨S,l.grow hg (λb e=>(hr b e).imp id λh=>(f b h).2.2),⟨y,q.2⟩,BA.2 ⟨⟨BS,z,?_⟩,λb j=>⟨(f b j).1,DO (f b j).2.1 hg.size,(f b j).2.2⟩⟩,m⟩;cases e:S.2 n with
 |none=>rfl|some x=>exact absurd (l _ _ _ _ _ e).2.1 BS
def StL.more(h:StL L g P w bs ts)(hg:w.grownBy w' r)(hr:∀b,r=some b->b∈bs)(f:w.heap.size<=n)(j:n<w'.heap.size):StL L g P w' (n::bs) ts:=h.moreG hg (λb e=>.inr (hr b e)) (h.own hg hr).rd f j
theorem StL.box(h:StL L g P w bs ts)(o:Obj):StL L g P (w.alloc o) (w.heap.size::bs) ts:=h.more (grown_below (Aa w o) none) (λb e=>by cases e) (DN _) BU
def StL.le(h:StL L g P w bs ts):50000<=L:=let ⟨_,_,h,_⟩:=h;h.2.2
theorem StL.typ{b c:Nat}(h:StL L g P w (b::bs) ts)(I:b∉bs)(css:G1)(l:∀S,(∀x∈ts,ClT S x.1 x.2.1 x.2.2)->∀x∈css,ClT S k x.1 x.2)(J:∀j u,(flat css)[j]?=some u->w.cell? (AK b (o+j))=some u)(R:tot css<=s)(E:n<=css.length)(M:n<=c)(O:n<=L):StL L g P w bs ((k+10,s,[AE (some (AK b o)) n c])::ts):=by
 obtain⟨S,D,y,z,A⟩:=h;have q:=z b (E6 ..)
 have hu:Up S (S.1,λc=>if c=b then some (k,s,css.l,o) else S.2 c):=⟨DN _,λc x l=>by
  have:c≠b:=λe=>by rw[e,q.2.2]at l;cases l
  exact(BQ this).tr l⟩
 refine⟨(S.1,λc=>if c=b then some (k,s,css.l,o) else S.2 c),λc N V m K f=>?_,y,λc f=>?_,BA.2 ⟨SlT.cl ⟨_,_,_,rfl,M,(by show _<=S.1;rwa[y.2.1]),(λe=>by cases e),λ_=>⟨b,o,_,_,rfl,E,DN s,BR rfl⟩⟩,λx f=>(A x f).up hu⟩⟩
 .by_cases p:c=b;{replace f:=(BR p).symm.tr f;cases f;exact⟨p ▸ q.1,p ▸ q.2.1,css,rfl,R,λx f=>(l S A x f).up hu,λj u T=>by rw[p];exact J j u T⟩};replace f:=(BQ p).symm.tr f;have⟨W,X,G,H,C,U,F⟩:=D c N V m K f;exact⟨W,X,G,H,C,λx f=>(U x f).up hu,F⟩
 have:=z c (Da _ f);exact⟨this.1,this.2.1,(BQ (λe:c=b=>I (e ▸ f))).tr this.2.2⟩
def nr{S:IX}(h:∀x∈rowT k css++ts,ClT S x.1 x.2.1 x.2.2):∀x∈css,ClT S k x.1 x.2:=λ_x b=>h _ (KA _ (IF (f:=λx=>(k,x.1,x.2)) b))
theorem StL.ice{B:Nat}{e:AZ}(h:StL L g P w (ob v++bs) (rowT k css++ts))(l:w.ownsRow B e k v css.length (flat css))(D:∀b∈bs,b<B)(z:tot css<=s)(y:css.length<=L):StL L g P w bs ((k+10,s,[v])::ts):=by
 by_cases E:css.length=0
 .refine(h.sub (λb m=>EP _ m) (λx f=>EP _ f)).add λS _=>SlT.cl ?_;rw[E]at l;rcases l.2 with⟨rfl,_⟩|⟨_,c,_,rfl,_,_,q,_⟩;{exact SlT.nil};exact⟨_,0,c,rfl,EH _,EH _,(λe=>by cases e),λh=>absurd h BX⟩
 obtain⟨b,c,rfl,m,F,q,C⟩:=Jg l BS;exact(StL.typ (n:=css.length) (o:=0) (c:=c) h (λf=>by have:=D b f;omega) css (λS=>nr) (λj u A=>by rw[EF];exact C j u A) z (DN _) q y).sub (λ_ h=>h) (λx f=>(BD.1 f).elim (λh=>h ▸ E6 ..) λh=>Da _ (EP _ h))
def nB{S:IX}(A:k<10)(h:∀x∈css,ClT S k x.1 x.2):(flat css).length=css.length*k/\∀u∈flat css,u.oneCell'=true:=by
 induction css with
 |nil=>simp[flat]
 |cons y l b=>
  have⟨f,j⟩:=b λx m=>h x (Da _ m);have⟨z,q⟩:=(h y BU).cells A;have e:flat (y::l)=y.2++flat l:=by simp[flat]
  rw[e,DV,f,z,DT,JA];exact⟨Nat.add_comm _ _,λu hu=>(BI.1 hu).elim (q u) (j u)⟩
theorem pu{S:IX}(z:k<10)(h:∀x∈css,ClT S k x.1 x.2){i:Nat}(hi:i<css.length){j:Nat}{u:AW}(b:css[i].2[j]?=some u):(flat css)[i*k+j]?=some u:=by
 induction css generalizing i with
 |nil=>cases hi
 |cons y l m=>
  have e:flat (y::l)=y.2++flat l:=by simp[flat]
  have⟨f,_⟩:=(h y BU).cells z;rw[e];cases i with
  |zero=>simp only[IQ]at b;rwa[G0,EF,LR (BO.1 b).1]|succ i=>rw[IG (by rw[f,JA];omega),f,JA,show i*k+k+j - k=i*k+j by omega];exact m (λx q=>h x (Da _ q)) yEh b
theorem StL.lit(h:StL L g P w bs ts)(css:G1)(xs:δ)(e:AZ)(D:k<10)(l:∀x∈css,(k,x.1,x.2)∈ts)(hx:xs.toList=flat css)(q:tot css<=s)(E:css.length<=1000)(z:n=w.heap.size):StL L g P (w.alloc (.cells xs e)) bs ((k+10,s,[AE (some (AK n 0)) css.length css.length])::ts):=by
 subst z;have A:xs.size=css.length*k:=by obtain⟨S,_,_,_,m⟩:=h;rw[<-Array.length_toList,hx];exact(nB D λx hx=>m _ (l x hx)).1
 have j:=World.ownsRow_lit (base:=w.z) (e:=e) (size:=k) w xs css.length (DN _) CH A;rw[hx]at j
 exact((h.box _).sub (λb f=>f) (λx hx=>by
  rcases BI.1 hx with h|h
  .obtain⟨y,C,rfl⟩:=BM.1 h
   exact l y C
  .exact h)).ice j (λb f=>(h.lt f).2) q (by have:=h.le;omega)
theorem StL.lit1{c:Θ}(h:StL L g P w bs ((k,s,c)::ts))(xs:δ)(e:AZ)(j:k<10)(hx:xs.toList=c)(b:n=w.heap.size):StL L g P (w.alloc (.cells xs e)) bs ((k+10,s,[AE (some (AK n 0)) 1 1])::ts):=(h.lit [(s,c)] xs e j (λx hx=>by rw[BB.1 hx];exact E6 ..) (by simp[flat,hx]) (DN s) BU b).sub (λ_ h=>h) λz f=>(BD.1 f).elim (λh=>h ▸ E6 ..) λh=>Da _ (Da _ h)
end
variable {a:Act}{o:Oper}{ops:Array Oper}{s x:Operand}{u v:AW}
def Kd(k t e:Nat):Prop:=k<10/\0<k/\∃i z y,prog.underlying t=some (.slice e)/\prog.info? e=some i/\i.zero=some z/\i.size=k/\i.bytes=y/\y<=1000/\z.cells.size=k
def LL{k t e y:Nat}{z:AW}(b:k<10/\0<k)(hu:prog.underlying t=some (.slice e))(h:(prog.info? e).map (λi=>(i.zero,i.size,i.bytes))=some (some z,k,y))(m:y<=1000)(p:z.cells.size=k):Kd k t e:=by have⟨i,hi,l,f,j⟩:=info_parts h;exact⟨b.1,b.2,i,z,y,hu,hi,l,f,j,m,p⟩
def kd2:Kd 2 64 60:=LL (y:=32) (z:=.agg #[AB 0,AG]) BX underlying64 BW BX rfl
def kd4:Kd 4 61 63:=LL (y:=64) (z:=.agg #[AB 0,AB 0,AG,AG]) BX underlying61 BW BX rfl
def kd6:Kd 6 25 66:=LL (y:=112) (z:=.agg #[AB 0,AB 0,AG,AG,AG,AG]) BX underlying25 BW BX rfl
theorem KX(b o j:Nat):((AK b o):Ab).add j=(AK b (o+j)):=by
 unfold Addr.add;split
 .rename_i h;rw[h];rfl
 rfl
theorem Gj{w:AU}{K:Act->World->Prop}{Q:Exit->Act->World->Prop}{E:Prop}{t:AZ}{Post:AW->World->Prop}(hg:o.guard=none)(m:o.op=.call {callee:=.builtin .append,args:=#[s,x],argTypes:=#[t,t]})
  (hr:∃b w',(Builtin.append_ #[t,t] o.type #[v,u]).run prog w=.ok b w'/\Post b w') (j:a.eval s=v) (hx:a.eval x=u) (l:∀b w',Post b w'->K (a.put o.dst b) w'):
  if Region.wanted o (yielded ops a.tmps)=true then Oper.wp prog o a w K Q else E:=by rw[BR xBx];obtain⟨b,w',f,h⟩:=hr;unfold Oper.wp execOp;simp only[m,resolve,invoke,builtin,Sem.run_bind,Sem.run_pure,Result.andThen_ok,Bcv,DZ,FI,j,hx,f];exact l b w' h
theorem Bj{rest:List Oper}{w:AU}{Q:Exit->Act->World->Prop}{t:AZ}{Post:AW->World->Prop}(hg:o.guard=none)(l:o.op=.call {callee:=.builtin .append,args:=#[s,x],argTypes:=#[t,t]})
  (hr:∃b w',(Builtin.append_ #[t,t] o.type #[v,u]).run prog w=.ok b w'/\Post b w') (j:a.eval s=v) (hx:a.eval x=u) (h:∀b w',Post b w'->wpList prog ops Q rest (a.put o.dst b) w'):wpList prog ops Q (o::rest) a w:=by refine wpList_plain hg λK f=>?_;have:=Gj (ops:=#[]) (K:=K) (Q:=Q) (E:=True) hg l hr j hx λb w' m=>f _ _ (h b w' m);rwa [BR (by simp[Region.wanted,hg])]at this
section
variable {L g P Q : Nat}{w w' : AU}{bs cs : Γ}{ts us : List Nk}{k s : Nat}{v : AW}{css : G1}{t e B : Nat}
theorem StL.push{c:Θ}(E:AZ)(I:Kd k t e)(h:StL L g P w (ob v++bs) ((k,s,c)::(rowT k css++ts)))(H:w.ownsRow B e k v css.length (flat css))(Z:B<=w.heap.size)(Y:css.length<=60000):
  ∃l w',(Builtin.append_ #[t,t] E #[v,.slice (some ⟨w.heap.size,0,none⟩) 1 1]).run prog (w.alloc (.cells c.toArray e))=.ok l w'/\w'.ownsRow B e k l (css.length+1) (flat (css++[(s,c)]))/\StL L g P w' (ob l++bs) (rowT k (css++[(s,c)])++ts)/\w.grownBy w' v.ownBlock/\∀b,b<w.heap.size->v.ownBlock≠some b->l.ownBlock≠some b:=by
 obtain⟨X,U,i,z,y,hu,hi,W,K,T,O,M⟩:=I;obtain⟨V,G⟩:c.length=k/\∀u∈c,u.oneCell'=true:=let ⟨S,_,_,_,R⟩:=h;(R _ (E6 ..)).cells X
 have f:(css.length+1)*y<=60001*1000:=Nat.mul_le_mul BS O;obtain⟨l,w',F,q,N,-,j⟩:=run_append_own_at (P:=prog) (w.alloc (.cells c.toArray e)) B t E e i z k y hu hi W K T M U v css.length (flat css) (H.alloc _) ⟨w.heap.size,0,none⟩ 1 1 c (by rw[V,Nat.one_mul]) (by exact Ub _ _ _ _ BU) G CH BS yBb;have m:w.grownBy w' v.ownBlock:=Iy (grown_below (Aa _ _) _) N;have A:∀b,v.ownBlock=some b->b∈ob v++bs:=λb f=>KA _ (by simp[ob,f]);have D:∀x∈rowT k (css++[(s,c)])++ts,x∈(k,s,c)::(rowT k css++ts):=λx C=>by simp only[rowT,D4,DZ,FI,FZ,EN,FK,FM]at C⊢;rcases C with(h|h)|h;{exact .inr (.inl h)};{exact .inl h};exact .inr (.inr h)
 refine⟨l,w',F,by simpa[flat]using q,?_,m,λb f J e=>?_⟩
 rotate_left
 .rcases j with j|j;{exact J (j ▸ e)};rw[j,BG]at e;simp only[FC]at e;omega
 rcases j with j|j
 .exact(h.own m A).sub (λb f=>by rwa[ob,j]at f) D
 refine(h.more m A (n:=w.heap.size+1) (JL _) (by have:=(q.lt _ j).2;simpa using this)).sub (λb f=>?_) D;rw[ob,j]at f;rcases BI.1 f with f|f
 .simp at f;rw[f];exact E6 ..
 exact Da _ (EP _ f)
end
open Stil
variable {α:Type}
theorem eR{R:Nat × Θ->α->Prop}{f:α->Nat}:∀(css:G1),(∀x∈css,∃y,R x y/\f y<=x.1)->∃l:List α,l.length=css.length/\(l.map f).sum<=tot css/\∀i(j:i<css.length)(p:i<l.length),R css[i] l[i]
 |[],_=>⟨[],rfl,DN _,λi h=>absurd h (Nat.not_lt_zero _)⟩
 |x::css,h=>by
  have⟨y,j,p⟩:=h x (E6 ..);have⟨l,A,m,q⟩:=eR css λz C=>h z (Da _ C)
  refine⟨y::l,by rw[DT,DT,A],?_,λi=>?_⟩
  .simp only[tot,DZ,FO]at m⊢
   omega
  .cases i with
   |zero=>exact λ_ _=>j
   |succ i=>exact λa b=>q i (by simpa using a) (by simpa using b)
def oR(l:List α):(l.map λ_=>1).sum=l.length:=by induction l<;>simp_all[Nat.add_comm]
theorem oy{css:G1}{x:Nat × Θ}(h:x∈css):x.1<=tot css:=by
 induction css with
 |nil=>cases h
 |cons y l b=>simp only[tot,DZ,FO]at b⊢;rcases BD.1 h with rfl|h;{omega};have:=b h;omega
def FY(w:AU)(b o:Nat)(cs:Θ):Prop:=∀j u,cs[j]?=some u->w.cell? (AK b (o+j))=some u
section
variable {S : IX}{w w' : AU}{L g P Q k s : Nat}{v : AW}{cs : Θ}{bs : Γ}{ts : List Nk}
theorem SlT.all(V:TW S w g)(h:SlT S k s v)(Z:k<10){α:Type}(f:α->Nat)(G:α->Prop)(A:Nat->Nat->α->Prop)(hx:∀z cs,z<=s->ClT S k z cs->∃y,(G y/\∀b o,FY w b o cs->A b o y)/\f y<=z):
  ∃l:List α,(∃a c,v=AE a l.length c/\(l.length<=c/\(a=none->c=0))/\∀i(h:i<l.length),∃b o,a=some (AK b o)/\g<b/\b<w.heap.size/\A b (o+i*k) l[i])/\(∀y∈l,G y)/\l.length<=S.1/\(l.map f).sum<=s:=by
 obtain⟨a,n,c,rfl,C,F,W,O⟩:=h;by_cases M:n=0
 .subst M;exact⟨[],⟨a,c,rfl,⟨C,W⟩,λi h=>absurd h (Nat.not_lt_zero _)⟩,(λy q=>by cases q),F,EH _⟩
 obtain⟨b,o,m,r,rfl,ab,U,hS⟩:=O BS;have⟨X,Y,css,x3,K,I,N⟩:=V _ _ _ _ _ hS;have J:(css.take n).length=n:=by rw[FP];omega
 have T:tot (css.take n)<=tot css:=by
  rw[tot,tot,List.map_take];conv=>rhs;rw[<-KC n (css.map Prod.fst),KE]
  exact Nat.le_add_right _ _
 have⟨l,j,h2,E⟩:=eR (R:=λx y=>G y/\∀b o,FY w b o x.2->A b o y) (f:=f) (css.take n) λx D=>hx x.1 x.2 (DU (DU (DU (oy D) T) K) U) (I x (List.mem_of_mem_take D));rw[J]at j;refine⟨l,⟨_,c,by rw[j],⟨by rwa[j],(λe=>by cases e)⟩,λi hi=>⟨b,o,rfl,X,Y,?_⟩⟩,λy q=>?_,by rwa[j],BS⟩
 .refine(E i BS hi).2 _ _ λaa u H=>?_;rw[List.getElem_take]at H;rw[Nat.add_assoc];exact N _ _ (pu Z I BS H)
 obtain⟨i,hi,rfl⟩:=List.getElem_of_mem q;exact(E i BS hi).1
theorem SlT.devs(z:TW S w g)(h:SlT S 3 s v):∃f,Hl w g v f/\(∀d∈f,Small d)/\f.length<=S.1:=by
 have⟨l,m,q,y,_⟩:=h.all z BX (λ(_:Stil.DR)=>0) Small (Jr w) λA cs _ h=>by rcases h with⟨_,d,rfl,hd⟩|⟨h,_⟩|⟨h,_⟩|⟨h,_⟩|⟨j,u,h,_⟩;{exact⟨d,⟨hd,λb o h=>⟨h 0 _ rfl,h 1 _ rfl,h 2 _ rfl⟩⟩,EH _⟩};{cases h};{cases h};{cases h};omega
 exact⟨l,m,q,y⟩
def UT{x:Int}(h:Sm x):Stil.i64 x:=⟨by have:=h.1;omega,by have:=h.2;omega⟩
def UE{op:Int}{ds:Ψ}(b:Sm op)(h:∀d∈ds,Small d)(hl:ds.length<=60000):Stil.Elem.fits ⟨op,ds⟩:=⟨UT b,DU hl BX,λd hd=>(h d hd).fits⟩
theorem SlT.elems(z:TW S w g)(hl:S.1<=60000)(h:SlT S 2 s v):∃f,F9 w v f/\(∀x∈f,Stil.Elem.fits x)/\f.length<=60000/\f.length<=s:=by
 have⟨l,⟨a,c,A,_,H⟩,C,G,E⟩:=h.all z BX (λ(_:Stil.Elem)=>1) Stil.Elem.fits (Z8 w) λK cs _ h=>by rcases h with⟨h,_⟩|⟨_,op,v,rfl,D,J,I⟩|⟨h,_⟩|⟨h,_⟩|⟨j,u,h,_⟩;{cases h};{have⟨F,q,m,y⟩:=J.devs z;exact⟨⟨op,F⟩,⟨UE D m (DU y hl),λb o h=>⟨h 0 _ rfl,v,h 1 _ rfl,q.devs⟩⟩,I⟩};{cases h};{cases h};omega
 refine⟨l,⟨a,c,A,λi hi=>let ⟨b,o,q,_,m,y⟩:=H i hi;⟨b,o,q,m,y⟩⟩,C,DU G hl,?_⟩;rwa [oR]at E
theorem ClT.N(y:TW S w g)(hl:S.1<=60000):∀(s:Nat)(cs:Θ),ClT S 4 s cs->∃n,(Ci n/\∀b o,FY w b o cs->Og w b o n)/\Ad n<=s:=by
 intro s;induction s using Nat.strongRecOn with
 |ind s E=>intro cs h;rcases h with⟨h,_⟩|⟨h,_⟩|⟨_,i,op,v,r,u,rfl,hi,A,G,hu,I⟩|⟨h,_⟩|⟨j,u,h,_⟩;{cases h};{cases h};{have⟨C,m,f,q⟩:=G.devs y;obtain⟨l,⟨a,c,rfl,_,F⟩,z,D,J⟩:=hu.all y BX Ad Ci (Og w) λH cs K=>E H BS cs;refine⟨⟨i,⟨op,C⟩,l⟩,⟨(G6 _ _ _).2 ⟨UT hi,UE A f (DU q hl),DU (DU D hl) BX,z⟩,λb o h=>?_⟩,by rw[Qg];omega⟩;rw[Ni];exact⟨h 0 _ rfl,h 1 _ rfl,⟨v,h 2 _ rfl,m.devs⟩,a,c,h 3 _ rfl,λi hi=>let ⟨b,o,m,_,f,q⟩:=F i hi;⟨b,o,m,f,q⟩⟩};{cases h};omega
theorem ClT.A(f:TW S w g)(hl:S.1<=60000):∀(s:Nat)(cs:Θ),ClT S 6 s cs->∃n,(Ba n/\∀b o,FY w b o cs->Pg w b o n)/\Ah n<=s:=by
 intro s;induction s using Nat.strongRecOn with
 |ind s N=>intro cs h;rcases h with⟨h,_⟩|⟨h,_⟩|⟨h,_⟩|⟨_,i,op,v,p,u,q,c,r,d,rfl,hi,D,R,hu,F,hd,V⟩|⟨j,u,h,_⟩;{cases h};{cases h};{cases h};{have⟨n,⟨y,G⟩,W⟩:=ClT.N f hl _ _ (ClT.mkN hi D R hu (EQ p));have⟨K,E,z,J,Y⟩:=F.elems f hl;obtain⟨l,⟨a,C,rfl,_,O⟩,A,I,X⟩:=hd.all f BX Ah Ba (Pg w) λT cs Z=>N T BS cs;refine⟨⟨n,K,l⟩,⟨(Ep _ _ _).2 ⟨y,DU J BX,z,DU (DU I hl) BX,A⟩,λb o h=>?_⟩,?_⟩;{rw[N2];refine⟨G b o λj x m=>h j x ?_,⟨c,h 4 _ rfl,E⟩,a,C,h 5 _ rfl,λi hi=>let ⟨b,o,M,_,H,U⟩:=O i hi;⟨b,o,M,H,U⟩⟩;have hl:j<4:=(BO.1 m).1;rw[<-m];exact LR (l₁:=[_,_,_,_]) (l₂:=[_,_]) hl};rw[Ti];split<;>omega};omega
theorem StL.arms(h:StL L g P w bs ts)(q:L<=60000)(z:(16,s,[v])∈ts):∃(l:Ek)(a:Δ)(c:Nat),v=AE a l.length c/\Dj w v l/\(∀x∈l,Ba x)/\l.length<=60000/\Aw l<=s:=by
 obtain⟨S,f,G,_,F⟩:=h;have m:S.1<=60000:=by rwa[G.2.1]
 have⟨l,⟨a,c,j,_,A⟩,y,D,I⟩:=(ClT.sl (F _ z)).all f BX Ah Ba (Pg w) λH cs _=>ClT.A f m H cs;exact⟨l,a,c,j,⟨a,c,j,λi hi=>let ⟨b,o,E,_,C,J⟩:=A i hi;⟨b,o,E,C,J⟩⟩,y,DU D m,I⟩
def mC(ds:Ψ):flat (ds.map λd=>(0,[AB d.kind,AB d.n,AB d.p]))=Di ds/\tot (ds.map λd=>(0,[AB d.kind,AB d.n,AB d.p]))=0:=by induction ds<;>simp_all[flat,tot,Di,Uz]
theorem StL.el{e:Ending}{n:Nat}(h:StL L g P w bs ts)(F:LX e w w' g Q n)(M:n<=L):∃op a n c,e=.returned (.agg #[AB op,AE a n c])/\StL L g Q w' bs ((2,1,[AB op,AE a n c])::ts)/\w.grownBy w' (some g):=by
 obtain⟨op,v,l,rfl,z,A,I,O,C,q⟩:=F;obtain⟨a,c,rfl,m,f⟩:=id A;refine⟨op,a,l.length,c,rfl,?_,q⟩;by_cases G:l.length=0
 .rw[G]at m⊢;exact(h.go C q).add λS _=>ClT.mkE z ⟨a,0,c,rfl,EH _,EH _,m.2,λh=>absurd h BX⟩
 obtain⟨b,o,rfl,N,J,_⟩:=f 0 BS;have⟨E,H⟩:=mC l
 have K:=StL.typ (k:=3) (s:=0) (n:=l.length) (c:=c) (o:=o) (h.moreG q (λb e=>.inl (by cases e;rfl)) C BS J) (λf=>by have:=(h.lt f).2;omega) (l.map λd=>(0,[AB d.kind,AB d.n,AB d.p])) (λS _ x f=>by
  obtain⟨d,hd,rfl⟩:=BM.1 f;exact .inl ⟨rfl,d,rfl,I d hd⟩) (λj u D=>by
  rw[E]at D;have:=UD A j u D
  rwa [KX] at this) (by rw[H];exact DN _) BU m.1 BS
 exact(K.add (y:=(2,1,_)) λS hS=>ClT.mkE z (ClT.sl (hS _ (E6 ..)))).sub (λ_ h=>h) (λx f=>(BD.1 f).elim (λh=>h ▸ E6 ..) λh=>Da _ (Da _ h))
def E9(w:AU)(b:Nat):Nat->Θ->World
 |_,[]=>w
 |o,x::l=>E9 (w.setCell (AK b o) x) b (o+1) l
def Zg(xs:Θ):Nat->Θ->Θ
 |_,[]=>xs
 |o,x::l=>Zg (xs.set o x) (o+1) l
theorem N6{B e b n c:Nat}:∀(l:Θ)(w:AU)(o:Nat)(f:Θ),w.ownsRow B e k (AE (some (AK b 0)) n c) n f->(E9 w b o l).ownsRow B e k (AE (some (AK b 0)) n c) n (Zg f o l)
 |[],_,_,_,h=>h
 |x::l,_w,o,_f,h=>N6 l _ (o+1) _ (h.stored o x).1
theorem Y1(a t:Θ):∀(l:Θ)(o:Nat),Zg (a++t) (a.length+o) l=a++Zg t o l:=by
 intro l;induction l generalizing t with
 |nil=>exact λ_=>rfl|cons x l b=>intro o;rw[Zg,Zg,List.set_append_right _ _ BS,Nat.add_sub_cancel_left,Nat.add_assoc,b]
theorem RJ(l:Θ):∀(a t:Θ),a.length=l.length->Zg (a++t) 0 l=l++t:=by
 induction l with
 |nil=>intro a t h;rw[BL.1 h];rfl
 |cons x l b=>
  intro a t h;cases a with
  |nil=>cases h
  |cons y a=>exact(Y1 [x] (a++t) l 0).tr (by rw[b a t C4];rfl)
theorem ZT{b:Nat}:∀(l:Θ)(w:AU)(o:Nat),w.grownBy (E9 w b o l) (some b)
 |[],w,_=>Le w _
 |x::l,w,o=>Iy (Ho w b o x) (ZT l _ (o+1))
end
variable {o:Nat}{v:AW}{w':AU}
def Gw(P:Φ)(w w':AU):Prop:=w.heap.size<=w'.heap.size/\∀b o,P b->b<w.heap.size->w'.cell? ⟨b,o,none⟩=w.cell? ⟨b,o,none⟩
theorem Gw.trans{P:Φ}{a b c:AU}(h1:Gw P a b)(f:Gw P b c):Gw P a c:=
 ⟨DU h1.1 f.1,λx o j h=>(f.2 x o j (DO h h1.1)).tr (h1.2 x o j h)⟩
abbrev Gw.tr:=@Gw.trans
theorem Gw.of_below{P:Φ}{w:AU}(h:AO w w'):Gw P w w':=⟨h.size,λb o _ f=>h.cell (p:=(AK b o)) f⟩
theorem Gw.set {P:Φ}{w:AU}{b:Nat}(h:¬P b)(v:AW):Gw P w (w.setCell ⟨b,o,none⟩ v):=⟨((BP 0 w).setCell (EH _) v).size,λx p f _=>by
 have j:¬x=b:=λe=>h (e ▸ f)
 have l:¬b=x:=λe=>h (e ▸ f)
 simp[go_sem]⟩
def F4(a:Δ)(n cap:Nat):Prop:=n<=cap/\(a=none->cap=0)
def Jk(P:Φ)(w:AU)(v:AW)(ds:Ψ):Prop:=∃a cap,v=AE a ds.length cap/\F4 a ds.length cap/\∀i(h:i<ds.length),∃b o,a=some (AK b o)/\P b/\b<w.heap.size/\Jr w b (o+i*3) ds[i]
def Jr.keepIn{P:Φ}{w:AU}{b:Nat}{d:Stil.DR}(h:Jr w b o d)(j:Gw P w w')(hl:P b)(f:b<w.heap.size):Jr w' b o d:=by obtain⟨l,m,p⟩:=h;exact⟨by rwa[j.2 _ _ hl f],by rwa[j.2 _ _ hl f],by rwa[j.2 _ _ hl f]⟩
theorem Jk.keep{P:Φ}{w:AU}{ds:Ψ}(h:Jk P w v ds)(l:Gw P w w'):Jk P w' v ds:=by obtain⟨a,cap,y,q,p⟩:=h;refine⟨a,cap,y,q,λi hi=>?_⟩;have⟨b,o,m,f,j,hd⟩:=p i hi;exact⟨b,o,m,f,DO j l.1,hd.keepIn l f j⟩
theorem Jk.mono{P Q:Φ}{w:AU}{ds:Ψ}(h:Jk Q w v ds)(hl:∀b,b<w.heap.size->Q b->P b):Jk P w v ds:=by obtain⟨a,cap,l,q,p⟩:=h;refine⟨a,cap,l,q,λi hi=>?_⟩;have⟨b,o,m,j,f,hd⟩:=p i hi;exact⟨b,o,m,hl _ f j,f,hd⟩
abbrev Jk.mo:=@Jk.mono
theorem Jk.at{P:Φ}{w:AU}{ds:Ψ}(h:Jk P w v ds):Aq w v ds:=by obtain⟨a,cap,m,q,j⟩:=h;refine⟨a,cap,m,λi hi=>?_⟩;have⟨b,o,f,p,l,hd⟩:=j i hi;exact⟨b,o,f,l,hd⟩
def Ry(P:Φ)(w:AU):Nat->Nat->Stil.DK->Prop
 |b,o,⟨k,e,kids⟩=>w.cell? (AK b o)=some (AB k)/\w.cell? (AK b (o+1))=some (AB e.op)/\
   (∃l,w.cell? (AK b (o+2))=some l/\Jk P w l e.args)/\
   ∃a cap,w.cell? (AK b (o+3))=some (AE a kids.length cap)/\F4 a kids.length cap/\∀i(h:i<kids.length),∃f j,a=some (AK f j)/\P f/\f<w.heap.size/\
    (have:=M3 (DY h);Ry P w f (j+i*4) kids[i])
def NZ (P:Φ)(w:AU)(b o:Nat)(k:Int)(e:Stil.Elem)(kids:Ξ):Ry P w b o ⟨k,e,kids⟩=(w.cell? (AK b o)=some (AB k)/\w.cell? (AK b (o+1))=some (AB e.op)/\
   (∃l,w.cell? (AK b (o+2))=some l/\Jk P w l e.args)/\
   ∃a cap,w.cell? (AK b (o+3))=some (AE a kids.length cap)/\F4 a kids.length cap/\∀i (h:i<kids.length),∃f j,a=some (AK f j)/\P f/\f<w.heap.size/\Ry P w f (j+i*4) kids[i]):=by rw[Ry]
def Z5(P:Φ)(w:AU)(v:AW)(ns:Ξ):Prop:=∃a cap,v=AE a ns.length cap/\F4 a ns.length cap/\∀i(h:i<ns.length),∃b o,a=some (AK b o)/\P b/\b<w.heap.size/\Ry P w b (o+i*4) ns[i]
theorem NY (P:Φ)(w:AU)(b o:Nat)(n:Stil.DK):Ry P w b o n↔(w.cell? (AK b o)=some (AB n.kind)/\w.cell? (AK b (o+1))=some (AB n.O.op)/\
   (∃y,w.cell? (AK b (o+2))=some y/\Jk P w y n.O.args)/\∃q,w.cell? (AK b (o+3))=some q/\Z5 P w q n.K):=by
 obtain⟨k,e,kids⟩:=n;rw[NZ];constructor
 .rintro⟨h,j,m,a,cap,f,p,l⟩;exact⟨h,j,m,_,f,a,cap,rfl,p,l⟩
 rintro⟨h,j,m,_,f,a,cap,rfl,p,l⟩;exact⟨h,j,m,a,cap,f,p,l⟩
def zt0{p:Prop}(h:p:=by have⟨b',o',ha,hlo,hl',hn⟩:=h6 i hi;exact⟨b',o',ha,hlo,DO hl' hk.1,ih _ (DY hi) b' _ hn hlo hl'⟩):p:=h
theorem Ry.keep{P:Φ}{w:AU}(hk:Gw P w w'):∀(n:Stil.DK)(b o:Nat),Ry P w b o n->P b->b<w.heap.size->Ry P w' b o n:=by
 intro n;induction n using Gp with
 |h k e kids ih=>intro b o h j f;rw[NZ]at h⊢;obtain⟨l,m,⟨A,y,z⟩,a,cap,q,C,h6⟩:=h;refine⟨?_,?_,⟨A,?_,z.keep hk⟩,a,cap,?_,C,λi hi=>?_⟩;{rwa[hk.2 _ _ j f]};{rwa[hk.2 _ _ j f]};{rwa[hk.2 _ _ j f]};{rwa[hk.2 _ _ j f]};exact zt0
theorem Z5.keep{P:Φ}{w:AU}{ns:Ξ}(h:Z5 P w v ns)(l:Gw P w w'):Z5 P w' v ns:=by obtain⟨a,cap,y,q,p⟩:=h;refine⟨a,cap,y,q,λi hi=>?_⟩;have⟨b,o,m,f,j,hd⟩:=p i hi;exact⟨b,o,m,f,DO j l.1,Ry.keep l _ _ _ hd f j⟩
theorem Ry.mono{P Q:Φ}{w:AU}(hl:∀b,b<w.heap.size->Q b->P b):∀(n:Stil.DK)(b o:Nat),Ry Q w b o n->Ry P w b o n:=by
 intro n;induction n using Gp with
 |h k e kids C=>intro b o h;rw[NZ]at h⊢;obtain⟨l,m,⟨F,A,D⟩,a,cap,q,G,H⟩:=h;refine⟨l,m,⟨F,A,D.mo hl⟩,a,cap,q,G,λi hi=>?_⟩;have⟨j,z,y,E,f,p⟩:=H i hi;exact⟨j,z,y,hl _ f E,f,C _ (DY hi) j _ p⟩
abbrev Ry.mo:=@Ry.mono
theorem Ry.at{P:Φ}{w:AU}:∀(n:Stil.DK)(b o:Nat),Ry P w b o n->Og w b o n:=by
 intro n;induction n using Gp with
 |h k e kids C=>intro b o h;rw[NZ]at h;rw[Ni];obtain⟨j,l,⟨E,A,D⟩,a,cap,q,H,F⟩:=h;refine⟨j,l,⟨E,A,D.at⟩,a,cap,q,λi hi=>?_⟩;have⟨f,z,y,G,p,m⟩:=F i hi;exact⟨f,z,y,p,C _ (DY hi) f _ m⟩
theorem Z5.at{P:Φ}{w:AU}{ns:Ξ}(h:Z5 P w v ns):Eg w v ns:=by obtain⟨a,cap,m,q,j⟩:=h;refine⟨a,cap,m,λi hi=>?_⟩;have⟨b,o,f,p,l,hd⟩:=j i hi;exact⟨b,o,f,l,Ry.at _ _ _ hd⟩
def OW(P:Φ)(w:AU)(b o:Nat)(e:Stil.Elem):Prop:=w.cell? (AK b o)=some (AB e.op)/\∃f,w.cell? (AK b (o+1))=some f/\Jk P w f e.args
def P7(P:Φ)(w:AU)(v:AW)(es:Ω):Prop:=∃a cap,v=AE a es.length cap/\F4 a es.length cap/\∀i(h:i<es.length),∃b o,a=some (AK b o)/\P b/\b<w.heap.size/\OW P w b (o+i*2) es[i]
def OW.keep{P:Φ}{w:AU}{b:Nat}{e:Stil.Elem}(h:OW P w b o e)(f:Gw P w w')(hl:P b)(j:b<w.heap.size):OW P w' b o e:=by obtain⟨l,p,m,q⟩:=h;exact⟨by rwa[f.2 _ _ hl j],p,by rwa[f.2 _ _ hl j],q.keep f⟩
theorem P7.keep{P:Φ}{w:AU}{es:Ω}(h:P7 P w v es)(l:Gw P w w'):P7 P w' v es:=by obtain⟨a,cap,y,q,p⟩:=h;refine⟨a,cap,y,q,λi hi=>?_⟩;have⟨b,o,m,f,j,hd⟩:=p i hi;exact⟨b,o,m,f,DO j l.1,hd.keep l f j⟩
theorem P7.mono{P Q:Φ}{w:AU}{es:Ω}(h:P7 Q w v es)(hl:∀b,b<w.heap.size->Q b->P b):P7 P w v es:=by obtain⟨a,cap,p,A,y⟩:=h;refine⟨a,cap,p,A,λi hi=>?_⟩;have⟨b,o,q,m,f,j,z,l,C⟩:=y i hi;exact⟨b,o,q,hl _ f m,f,j,z,l,C.mo hl⟩
abbrev P7.mo:=@P7.mono
theorem P7.at{P:Φ}{w:AU}{es:Ω}(h:P7 P w v es):F9 w v es:=by obtain⟨a,cap,m,C,q⟩:=h;refine⟨a,cap,m,λi hi=>?_⟩;have⟨b,o,p,A,l,f,y,j,z⟩:=q i hi;exact⟨b,o,p,l,f,y,j,z.at⟩
def Wn(P:Φ)(w:AU):Nat->Nat->Stil.DL->Prop
 |b,o,⟨n,m,kids⟩=>Ry P w b o n/\(∃l,w.cell? (AK b (o+4))=some l/\P7 P w l m)/\
   ∃a cap,w.cell? (AK b (o+5))=some (AE a kids.length cap)/\F4 a kids.length cap/\∀i(h:i<kids.length),∃f j,a=some (AK f j)/\P f/\f<w.heap.size/\
    (have:=M3 (DY h);Wn P w f (j+i*6) kids[i])
def Nn (P:Φ)(w:AU)(b o:Nat)(n:Stil.DK)(j:Ω)(kids:Ek):Wn P w b o ⟨n,j,kids⟩=(Ry P w b o n/\(∃m,w.cell? (AK b (o+4))=some m/\P7 P w m j)/\
   ∃a cap,w.cell? (AK b (o+5))=some (AE a kids.length cap)/\F4 a kids.length cap/\∀i (h:i<kids.length),∃f l,a=some (AK f l)/\P f/\f<w.heap.size/\Wn P w f (l+i*6) kids[i]):=by rw[Wn]
def Ul(P:Φ)(w:AU)(v:AW)(l:Ek):Prop:=∃a cap,v=AE a l.length cap/\F4 a l.length cap/\∀i(h:i<l.length),∃b o,a=some (AK b o)/\P b/\b<w.heap.size/\Wn P w b (o+i*6) l[i]
theorem dc(P:Φ)(w:AU)(b o:Nat)(n:Stil.DL):Wn P w b o n↔(Ry P w b o n.N/\(∃p,w.cell? (AK b (o+4))=some p/\P7 P w p n.C)/\∃q,w.cell? (AK b (o+5))=some q/\Ul P w q n.K):=by
 obtain⟨k,e,kids⟩:=n;rw[Nn];constructor
 .rintro⟨h,l,a,cap,f,m,j⟩;exact⟨h,l,_,f,a,cap,rfl,m,j⟩
 rintro⟨h,l,_,f,a,cap,rfl,m,j⟩;exact⟨h,l,a,cap,f,m,j⟩
theorem Wn.keep{P:Φ}{w:AU}(hk:Gw P w w'):∀(n:Stil.DL)(b o:Nat),Wn P w b o n->P b->b<w.heap.size->Wn P w' b o n:=by
 intro n;induction n using Fz with
 |h n C kids ih=>intro b o h j f;rw[Nn]at h⊢;obtain⟨l,⟨z,q,y⟩,a,cap,m,A,h6⟩:=h;refine⟨Ry.keep hk _ _ _ l j f,⟨z,?_,y.keep hk⟩,a,cap,?_,A,λi hi=>?_⟩;{rwa[hk.2 _ _ j f]};{rwa[hk.2 _ _ j f]};exact zt0
theorem Ul.keep{P:Φ}{w:AU}{ns:Ek}(h:Ul P w v ns)(l:Gw P w w'):Ul P w' v ns:=by obtain⟨a,cap,y,q,p⟩:=h;refine⟨a,cap,y,q,λi hi=>?_⟩;have⟨b,o,m,f,j,hd⟩:=p i hi;exact⟨b,o,m,f,DO j l.1,Wn.keep l _ _ _ hd f j⟩
theorem Wn.mono{P Q:Φ}{w:AU}(hl:∀b,b<w.heap.size->Q b->P b):∀(n:Stil.DL)(b o:Nat),Wn Q w b o n->Wn P w b o n:=by
 intro n;induction n using Fz with
 |h n H kids A=>intro b o h;rw[Nn]at h⊢;obtain⟨l,⟨D,z,C⟩,a,cap,p,G,F⟩:=h;refine⟨Ry.mo hl _ _ _ l,⟨D,z,C.mo hl⟩,a,cap,p,G,λi hi=>?_⟩;have⟨j,y,q,E,f,m⟩:=F i hi;exact⟨j,y,q,hl _ f E,f,A _ (DY hi) j _ m⟩
abbrev Wn.mo:=@Wn.mono
theorem Ul.mono{P Q:Φ}{w:AU}{ns:Ek}(h:Ul Q w v ns)(hl:∀b,b<w.heap.size->Q b->P b):Ul P w v ns:=by obtain⟨a,cap,l,q,p⟩:=h;refine⟨a,cap,l,q,λi hi=>?_⟩;have⟨b,o,m,j,f,hd⟩:=p i hi;exact⟨b,o,m,hl _ f j,f,Wn.mo hl _ _ _ hd⟩
abbrev Ul.mo:=@Ul.mono
theorem Wn.at{P:Φ}{w:AU}:∀(n:Stil.DL)(b o:Nat),Wn P w b o n->Pg w b o n:=by
 intro n;induction n using Fz with
 |h n G kids A=>intro b o h;rw[Nn]at h;rw[N2];obtain⟨j,⟨D,z,C⟩,a,cap,p,H,E⟩:=h;refine⟨Ry.at _ _ _ j,⟨D,z,C.at⟩,a,cap,p,λi hi=>?_⟩;have⟨f,y,q,F,m,l⟩:=E i hi;exact⟨f,y,q,m,A _ (DY hi) f _ l⟩
theorem Ul.at{P:Φ}{w:AU}{ns:Ek}(h:Ul P w v ns):Dj w v ns:=by obtain⟨a,cap,m,q,j⟩:=h;refine⟨a,cap,m,λi hi=>?_⟩;have⟨b,o,f,p,l,hd⟩:=j i hi;exact⟨b,o,f,l,Wn.at _ _ _ hd⟩
theorem Y5{w:AU}{base s n:Nat}{e:AZ}{xs:Θ}(h:w.ownsRow base e s v n xs):∃a cap,v=AE a n cap/\F4 a n cap/\(∀b o sp,a=some ⟨b,o,sp⟩->o=0/\sp=none/\v.ownBlock=some b/\base<=b/\b<w.heap.size/\∀j u,xs[j]?=some u->w.cell? (AK b j)=some u)/\(0<n->a≠none):=by
 rcases h.2 with⟨D,y⟩|⟨g,cap,cur,l,A,H,C,F⟩
 .have z:=y;subst z;exact⟨none,0,D,⟨DN _,λ_=>rfl⟩,λb o sp f=>(by cases f),λE=>absurd E BS⟩
 refine⟨_,cap,l,⟨C,λf=>(by cases f)⟩,λb o sp f=>?_,λ_ f=>(by cases f)⟩;simp only[FC,Addr.mk.injEq]at f;obtain⟨rfl,rfl,rfl⟩:=f;have m:v.b=some g:=by rw[l];rfl
 refine⟨rfl,rfl,m,A,(h.lt g m).2,λj u q=>?_⟩;have G:=(BO.1 q).1;subst l;have:=h.cellAt j (by have:=h.1;omega);rwa[this]
def Lj{w:AU}{g:Nat}{ds:Ψ}(h:Hl w g v ds):Jk (λb=>g<b) w v ds:=h
def l9(P:Φ)(w:AU):Jk P w AG []:=⟨none,0,rfl,⟨DN _,λ_=>rfl⟩,λi hi=>by simp at hi⟩
def NG(e:Stil.Elem):Prop:=(-1000000<=e.op/\e.op<=1000000)/\(∀d∈e.args,Small d)/\e.args.length<=100000
def NG.wf{e:Stil.Elem}(h:NG e):e.wf:=⟨⟨by have:=h.1.1;omega,by have:=h.1.2;omega⟩,by have:=h.2.2;omega,λd hd=>(h.2.1 d hd).fits⟩
