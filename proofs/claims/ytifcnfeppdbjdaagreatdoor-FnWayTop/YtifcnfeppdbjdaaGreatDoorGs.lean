import Derived.Test.YtifcnfeppdbjdaaGreatDoorY7g
import Derived.Test.YtifcnfeppdbjdaaGreatDoorE1
set_option maxHeartbeats 4000000
set_option maxRecDepth 100000
namespace Go.Proofs.YtifcnfeppdbjdaaGreatDoor
open Tryz Stil Go.RowKit Go.Sort Go.BigFrame
variable {B base:Nat}{W:World}{u0 u1:Value}
def MG (w:World)(base:Nat)(vs:List Value)(lo:Nat)(n:Stil.B9)(e:Ending):Prop:=∃(k op:Int) (a:List Stil.CC) (g:Option Addr) (d:Nat) (c:Option Addr) (f:Nat) (b:List Ak),e=.returned (.agg #[AB k,AB op,AE g a.length d,AE c b.length f])/\
 Ls w base ⟨k,op,a,AE g a.length d,AE c b.length f,b⟩/\(Ak.mk k op a (AE g a.length d) (AE c b.length f) b).net=n/\∀x∈(Ak.mk k op a (AE g a.length d) (AE c b.length f) b).vals,x∈vs\/∀q,x.ownBlock=some q->lo<=q
theorem sx (k:Int)(base:Nat)(f:List Ak)(a:Option Addr)(cap:Nat)(w:World)(H:N8 w base (AE a f.length cap) f)(hl:Stil.sizes (f.map Ak.net)<=999999)(ab:base<=w.heap.size):
  Calls prog 124 #[AB k,AE a f.length cap] w λe V=>MG V base (Gv f) w.heap.size (Gj k (Cc k (f.map Ak.net))) e/\AO w V:=by
 have G:=AV (λW B h y h2=>Ww k B base f a cap W y h2 (H.below h) hl (CJ ab h.size));obtain⟨F,hF⟩:=AA (Cc k (f.map Ak.net))
 rw[<-hF] at G ⊢;have nC:=AV (λx hx q t=>(H.lt x (CQ _ hx) q t).2);clear H hl hF;go_enter func124,ntmps124;go_upto_region 2 with(go_at_call 142;refine(G _ _ AW (by simp[go_sem]) Ax).mono ?_;rintro e d ⟨l,j,b,rfl,O,P,I,hsub,hvl⟩;have A:=AV O;have u:=AV P;have C:Hid (∀x∈(Value.slice l b.length j)::Gv b,x.ownBlock≠some (w.heap.size+1)):=yCg;have z:Hid (∀x∈(Value.slice l b.length j)::Gv b,x∈Gv f\/∀q,x.ownBlock=some q->w.heap.size<=q):=(by intro x hx;rcases List.mem_cons.1 hx with rfl | hx;(exact .inr (λq t=>CJ Ax (hvl q t)));(exact .inl (hsub.subset hx)));clear O P hsub hvl)
 obtain⟨o,s⟩:=Ef I;have af:w.heap.size+1<d.heap.size:=CB AU I.size;have kd:d.cell? (AL w 0)=some (AB k):=by rw[o _ _ Ax];simp[go_sem]
 have S:d.cell? (AK (w.heap.size+1) 0)=some (AB 0):=by rw[o _ _ AU];simp[go_sem]
 have z1:d.cell? (AK (w.heap.size+1) 1)=some (AB 0):=by rw[o _ _ AU];simp[go_sem]
 have z2:d.cell? (AK (w.heap.size+1) 2)=some AG:=by rw[o _ _ AU];simp[go_sem]
 have M:d.cell? (AK (w.heap.size+1) 3)=some AG:=by rw[o _ _ AU];simp[go_sem]
 have f0:d.frozen? (AK (w.heap.size+1) 0)=false:=by rw[s _ _ AU];simp[go_sem]
 have f1:d.frozen? (AK (w.heap.size+1) 1)=false:=by rw[s _ _ AU];simp[go_sem]
 have f2:d.frozen? (AK (w.heap.size+1) 2)=false:=by rw[s _ _ AU];simp[go_sem]
 have f3:d.frozen? (AK (w.heap.size+1) 3)=false:=by rw[s _ _ AU];simp[go_sem]
 have ac:AO w d:=AW;clear o s I G nC;by_cases y:b.length=1
 ·obtain⟨m,rfl⟩:=List.length_eq_one_iff.1 y
  have i:=u.one 0 AU;simp only[EP] at i;obtain⟨g,c,hv,_,ag,_,r⟩:=Cb u.1 AU;obtain⟨a1,a2,a3,a4⟩:=O6 [m] 0 AU;have y0:=r _ _ a1;have Z:=r _ _ a2;have U:=r _ _ a3;have y3:=r _ _ a4;simp only[EP,FG,CV] at y0 Z U y3;have D:=(Jw _ _ _).1 i.1;obtain⟨N,X,hd⟩:=Ah D.1;obtain⟨R,Y,aa⟩:=Ah D.2.1;simp only[Value.slice.injEq] at hv;obtain⟨rfl,_,rfl⟩:=hv;have L:Hid (Gj k F=m.net):=by show _=_;rw[<-A.out];rfl
  have J:=AV (λx hx=>C x (CQ _ (by rw[Md];exact hx)));have E:=AV (λx hx=>z x (CQ _ (by rw[Md];exact hx)));clear C A z;obtain⟨T,aJ,aG,zg,zf,Q⟩:=m;simp only at hd aa y0 Z U y3;subst hd;subst aa;have K:=AV i;clear i D r u;simp only[ED]
  go_wp2
  refine bodyPost_ret (v:=.agg #[AB T,AB aJ,AE N aG.length X,AE R Q.length Y]) (by simp[results,results124,go_sem,S,z1,z2,M]) rfl ⟨⟨T,aJ,aG,N,X,R,Y,Q,rfl,?_,L.symm,E.out⟩,AW⟩;exact Ls.setO4 K J.out
 ·have L:Hid (Gj k F=⟨k,⟨0,[]⟩,b.map Ak.net⟩):=by
   show _=_
   rw[<-A.out];unfold Gj;rw[dif_neg (by simpa using y)]
  have i:=u.net k 0 [] (World.ownsRow_nil _ _ _ _) (λx _=>Py x);have K:=AV i;have J:Hid (∀x∈(Ak.mk k 0 [] AG (AE l b.length j) b).vals,x.ownBlock≠some (w.heap.size+1)):=by
   intro x hx;rw[Ak.vals_eq] at hx;rcases List.mem_cons.1 hx with rfl | hx
   ·intro e;cases e
   ·exact C x hx
  have E:Hid (∀x∈(Ak.mk k 0 [] AG (AE l b.length j) b).vals,x∈Gv f\/∀q,x.ownBlock=some q->w.heap.size<=q):=by
   intro x hx;rw[Ak.vals_eq] at hx;rcases List.mem_cons.1 hx with rfl | hx
   ·exact .inr (λq t=>by cases t)
   ·exact z x hx
  clear z;have ae:((b.length:Int)==1)=false:=by rw[CS];omega
  have jv:¬((b.length:Int)=1):=AQ
  clear i u C A
  go_wp2
  refine bodyPost_ret (v:=.agg #[AB k,AB 0,AG,AE l b.length j]) (by simp[results,results124,go_sem,S,z1,z2,M]) rfl ⟨⟨k,0,[],none,0,l,j,b,rfl,?_,by rw[Ak.net_eq,L.out],E.out⟩,AW⟩;exact Ls.setO4 K J.out
theorem Ey {ob:Obj}{c p:Nat}(h:c<W.heap.size):(W.alloc ob).cell? (AK c p)=W.cell? (AK c p):=(Aa W ob).cell (p:=(AK c p)) h
theorem N8.pair {w:World}{a b:Ak}(h1:MOk w base a)(g:MOk w base b)(i:(a.vals++b.vals).Pairwise Aside)(j:base<=w.heap.size):N8 (w.alloc (.cells #[AB a.kind,AB a.op,a.av,a.kv,AB b.kind,AB b.op,b.av,b.kv] 59)) base (AE (some (AL w 0)) 2 2) [a,b]:=by
 have l:Gv [a,b]=a.vals++b.vals:=by simp[Gv]
 refine⟨?_,λx f=>?_,?_⟩
 ·exact World.ownsRow_lit w #[AB a.kind,AB a.op,a.av,a.kv,AB b.kind,AB b.op,b.av,b.kv] 2 j A6 rfl
 ·rcases List.mem_cons.1 f with rfl | f
  ·exact h1.below (Aa _ _)
  ·rw[List.mem_singleton.1 f];exact g.below (Aa _ _)
 ·rw[l,EQ]
  refine⟨λy c=>(Ho (n:=w.heap.size) (λk d=>?_) (λk d=>?_)).symm,i⟩
  ·rcases List.mem_append.1 c with c | c
   ·exact(h1.lt a y c k d).2
   ·exact(g.lt b y c k d).2
  ·have e:w.heap.size=k:=by simpa[Value.ownBlock] using d
   omega
theorem zu0 {p:Prop}(h:p:=by
 refine Ls.setO4 aT (λx hx e=>?_)
 rcases HW.out x hx with h | h
 ·have:=nC x h _ e;omega
 ·have:=h _ e;omega):p:=h
theorem zx0 {p:Prop}(h:p:=by
 have hbC:=(Bd hbB _).trans (hb3.mono (by have:=hbB.size;simp;omega))
 clear jD hbB hb1 hb2 hb3
 exact AW):p:=h
theorem sw (j i:Int)(a:List Stil.CC)(m:Option Addr)(r:Nat)(l:Option Addr)(y:Nat)(b:List Ak)(f g:Int)(c:List Stil.CC)(k:Option Addr)(u:Nat)(s:Option Addr)(o:Nat)(d:List Ak)(base:Nat)(w:World)
  (h1:MOk w base (Ak.mk j i a (AE m a.length r) (AE l b.length y) b)) (R:MOk w base (Ak.mk f g c (AE k c.length u) (AE s d.length o) d)) (hp:((Ak.mk j i a (AE m a.length r) (AE l b.length y) b).vals++(Ak.mk f g c (AE k c.length u) (AE s d.length o) d).vals).Pairwise Aside) (ao:base<=w.heap.size) (hs:Stil.sizes [(Ak.mk j i a (AE m a.length r) (AE l b.length y) b).net,(Ak.mk f g c (AE k c.length u) (AE s d.length o) d).net]<=999999) (al:Dw (Ak.mk j i a (AE m a.length r) (AE l b.length y) b).net) (V:Dw (Ak.mk f g c (AE k c.length u) (AE s d.length o) d).net):
  Calls prog 125 #[.agg #[AB j,AB i,AE m a.length r,AE l b.length y], .agg #[AB f,AB g,AE k c.length u,AE s d.length o]] w λe G=>MG G base ((Ak.mk j i a (AE m a.length r) (AE l b.length y) b).vals++(Ak.mk f g c (AE k c.length u) (AE s d.length o) d).vals) w.heap.size (Lu (Ak.mk j i a (AE m a.length r) (AE l b.length y) b).net (Ak.mk f g c (AE k c.length u) (AE s d.length o) d).net) e/\AO w G:=by
 obtain⟨f1,f2⟩:=MOk.from _ h1;obtain⟨f3,f4⟩:=MOk.from _ R;have X:Hid (∀W,AO w W->Calls prog 83 #[.agg #[AB j,AB i,AE m a.length r,AE l b.length y]] W (AN W (.bool (Am (Ak.mk j i a (AE m a.length r) (AE l b.length y) b).net)))):=by
  intro W h;have:=U4 (Ak.mk j i a (AE m a.length r) (AE l b.length y) b).net _ _ W (f1.at.below h) (f2.at.below h) al
  have e:=Ak.net_eq (Ak.mk j i a (AE m a.length r) (AE l b.length y) b);have qL:(Ak.mk j i a (AE m a.length r) (AE l b.length y) b).net.kind=j:=by rw[e]
  have qJ:(Ak.mk j i a (AE m a.length r) (AE l b.length y) b).net.one.op=i:=by rw[e]
  rw[qL,qJ] at this;exact this
 have dO:Hid (∀W,AO w W->Calls prog 83 #[.agg #[AB f,AB g,AE k c.length u,AE s d.length o]] W (AN W (.bool (Am (Ak.mk f g c (AE k c.length u) (AE s d.length o) d).net)))):=by
  intro W h;have:=U4 (Ak.mk f g c (AE k c.length u) (AE s d.length o) d).net _ _ W (f3.at.below h) (f4.at.below h) V
  have e:=Ak.net_eq (Ak.mk f g c (AE k c.length u) (AE s d.length o) d);have qL:(Ak.mk f g c (AE k c.length u) (AE s d.length o) d).net.kind=f:=by rw[e]
  have qJ:(Ak.mk f g c (AE k c.length u) (AE s d.length o) d).net.one.op=g:=by rw[e]
  rw[qL,qJ] at this;exact this
 have ae:=List.pairwise_append.1 hp;have xX:Hid (∀W,AO w W->Ls W base (Ak.mk j i a (AE m a.length r) (AE l b.length y) b)):=λW h=>⟨h1.below h,ae.1⟩
 have uN:Hid (∀W,AO w W->Ls W base (Ak.mk f g c (AE k c.length u) (AE s d.length o) d)):=λW h=>⟨R.below h,ae.2.1⟩
 have nC:Hid (∀x∈(Ak.mk j i a (AE m a.length r) (AE l b.length y) b).vals++(Ak.mk f g c (AE k c.length u) (AE s d.length o) d).vals,∀q,x.ownBlock=some q->q<w.heap.size):=by
  intro x hx q J;rcases List.mem_append.1 hx with hx | hx
  ·exact(h1.lt _ x hx q J).2
  ·exact(R.lt _ x hx q J).2
 have K:Hid (∀W,AO w W->Calls prog 124 #[AB 2,AE (some (AL W 0)) 2 2] (W.alloc (.cells #[AB j,AB i,AE m a.length r,AE l b.length y,AB f,AB g,AE k c.length u,AE s d.length o] 59)) λe G=>MG G base ((Ak.mk j i a (AE m a.length r) (AE l b.length y) b).vals++(Ak.mk f g c (AE k c.length u) (AE s d.length o) d).vals) (W.alloc (.cells #[AB j,AB i,AE m a.length r,AE l b.length y,AB f,AB g,AE k c.length u,AE s d.length o] 59)).heap.size (Gj 2 (Cc 2 [(Ak.mk j i a (AE m a.length r) (AE l b.length y) b).net,(Ak.mk f g c (AE k c.length u) (AE s d.length o) d).net])) e/\Below (W.alloc (.cells #[AB j,AB i,AE m a.length r,AE l b.length y,AB f,AB g,AE k c.length u,AE s d.length o] 59)).heap.size (W.alloc (.cells #[AB j,AB i,AE m a.length r,AE l b.length y,AB f,AB g,AE k c.length u,AE s d.length o] 59)) G):=by
  intro W h;have hr:=N8.pair (h1.below h) (R.below h) hp (CJ ao h.size);have:=sx 2 base [(Ak.mk j i a (AE m a.length r) (AE l b.length y) b),(Ak.mk f g c (AE k c.length u) (AE s d.length o) d)] (some (AL W 0)) 2 _ hr hs (CJ ao (CJ h.size AU))
  have hv:Gv [(Ak.mk j i a (AE m a.length r) (AE l b.length y) b),(Ak.mk f g c (AE k c.length u) (AE s d.length o) d)]=(Ak.mk j i a (AE m a.length r) (AE l b.length y) b).vals++(Ak.mk f g c (AE k c.length u) (AE s d.length o) d).vals:=by simp[Gv]
  rw[hv] at this;exact this
 obtain⟨S,hS⟩:=AA (Lu (Ak.mk j i a (AE m a.length r) (AE l b.length y) b).net (Ak.mk f g c (AE k c.length u) (AE s d.length o) d).net)
 have H:Hid (S=if Am (Ak.mk j i a (AE m a.length r) (AE l b.length y) b).net then(Ak.mk f g c (AE k c.length u) (AE s d.length o) d).net else if Am (Ak.mk f g c (AE k c.length u) (AE s d.length o) d).net then(Ak.mk j i a (AE m a.length r) (AE l b.length y) b).net else Gj 2 (Cc 2 [(Ak.mk j i a (AE m a.length r) (AE l b.length y) b).net,(Ak.mk f g c (AE k c.length u) (AE s d.length o) d).net])):=hS;rw[<-hS];obtain⟨M,ai⟩:∃t,t=Am (Ak.mk j i a (AE m a.length r) (AE l b.length y) b).net:=⟨_,rfl⟩
 obtain⟨t2,an⟩:∃t,t=Am (Ak.mk f g c (AE k c.length u) (AE s d.length o) d).net:=⟨_,rfl⟩
 rw[<-ai] at X H;rw[<-an] at dO H;obtain⟨U,wV⟩:=AA ((Ak.mk j i a (AE m a.length r) (AE l b.length y) b).vals++(Ak.mk f g c (AE k c.length u) (AE s d.length o) d).vals)
 have fQ:=AV wV;rw[<-wV] at nC K ⊢;obtain⟨X1,ag⟩:∃af,af=(Ak.mk j i a (AE m a.length r) (AE l b.length y) b).net:=⟨_,rfl⟩
 obtain⟨X2,ac⟩:∃af,af=(Ak.mk f g c (AE k c.length u) (AE s d.length o) d).net:=⟨_,rfl⟩
 have xK:=AV ag;have xJ:=AV ac;rw[<-ag,<-ac] at K H;clear hS ai an wV ag ac f1 f2 f3 f4 h1 R hp ae hs al V;cases M
 ·cases t2
  ·have I:S=Gj 2 (Cc 2 [X1,X2]):=by rw[H.out];rfl
   rw[<-I] at K;clear H I xX uN;go_enter func125,ntmps125;go_upto_region 3 with(go_at_call 83;refine(X _ AW).mono ?_;rintro e z ⟨rfl,hb1⟩;obtain⟨A,hf⟩:=Ef hb1;have ab:w.heap.size<z.heap.size:=CB Ax hb1.size;have aa:w.heap.size+1<z.heap.size:=CB AU hb1.size;have C:w.heap.size+1+1<z.heap.size:=CB AU hb1.size;have jD:AO w z:=AW)
   go_upto_region 5 with(go_at_call 83;refine(dO _ AW).mono ?_;rintro e D ⟨rfl,hb2⟩;obtain⟨F,V⟩:=Ef hb2;have ar:=CB ab hb2.size;have ap:=CB aa hb2.size;have E:=CB C hb2.size;have hbB:AO w D:=yDe)
   go_wp2_with (go_at_call 124;refine(K D hbB).mono ?_;rintro e w3 ⟨⟨mk,aJ,aG,s0,t0,s1,M,Z,rfl,ak,aj,ah⟩,hb3⟩;obtain⟨Y,au⟩:=Ef hb3;have av:=CB (CB E AU) hb3.size;have aT:=AV ak;have P:=AV aj;have HW:Hid (∀x∈(Ak.mk mk aJ aG (AE s0 aG.length t0) (AE s1 Z.length M) Z).vals,x∈U\/∀q,x.ownBlock=some q->D.heap.size<=q):=(λx hx=>(ah x hx).imp id (λh q J=>CJ AU (h q J)));clear ak aj ah)
   have Q:w3.cell? (AK (w.heap.size+1+1) 0)=some (AB 0):=by rw[Y _ _ (CB E AU),Ey E,F _ _ C,A _ _ AU];simp[go_sem]
   have T:w3.cell? (AK (w.heap.size+1+1) 1)=some (AB 0):=by rw[Y _ _ (CB E AU),Ey E,F _ _ C,A _ _ AU];simp[go_sem]
   have N:w3.cell? (AK (w.heap.size+1+1) 2)=some AG:=by rw[Y _ _ (CB E AU),Ey E,F _ _ C,A _ _ AU];simp[go_sem]
   have O:w3.cell? (AK (w.heap.size+1+1) 3)=some AG:=by rw[Y _ _ (CB E AU),Ey E,F _ _ C,A _ _ AU];simp[go_sem]
   refine bodyPost_ret (v:=.agg #[AB mk,AB aJ,AE s0 aG.length t0,AE s1 Z.length M]) (by simp[results,results125,go_sem,Q,T,N,O]) rfl ⟨⟨mk,aJ,aG,s0,t0,s1,M,Z,rfl,?_,P.out,λx hx=>(HW x hx).imp id (λh q J=>by have:=h q J;omega)⟩,?_⟩
   ·exact zu0
   ·exact zx0
  ·have I:S=X1:=by rw[H.out];rfl
   have P:Hid ((Ak.mk j i a (AE m a.length r) (AE l b.length y) b).net=S):=by show _=_;rw[I,xK.out]
   have L:Hid (∀x∈(Ak.mk j i a (AE m a.length r) (AE l b.length y) b).vals,x∈U):=λx hx=>by rw[fQ.out];exact E1 _ hx
   clear H I K uN;go_enter func125,ntmps125;go_upto_region 3 with(go_at_call 83;refine(X _ AW).mono ?_;rintro e z ⟨rfl,hb1⟩;obtain⟨A,hf⟩:=Ef hb1;have ab:w.heap.size<z.heap.size:=CB Ax hb1.size;have aa:w.heap.size+1<z.heap.size:=CB AU hb1.size;have C:w.heap.size+1+1<z.heap.size:=CB AU hb1.size;have jD:AO w z:=AW)
   go_wp2_with (go_at_call 83;refine(dO _ AW).mono ?_;rintro e D ⟨rfl,hb2⟩;obtain⟨F,V⟩:=Ef hb2;have ar:=CB ab hb2.size;have ap:=CB aa hb2.size;have E:=CB C hb2.size;have hbB:AO w D:=yDe)
   have Q:D.cell? (AK (w.heap.size+1+1) 0)=some (AB 0):=by rw[F _ _ C,A _ _ AU];simp[go_sem]
   have T:D.cell? (AK (w.heap.size+1+1) 1)=some (AB 0):=by rw[F _ _ C,A _ _ AU];simp[go_sem]
   have N:D.cell? (AK (w.heap.size+1+1) 2)=some AG:=by rw[F _ _ C,A _ _ AU];simp[go_sem]
   have O:D.cell? (AK (w.heap.size+1+1) 3)=some AG:=by rw[F _ _ C,A _ _ AU];simp[go_sem]
   refine bodyPost_ret (v:=.agg #[AB j,AB i,AE m a.length r,AE l b.length y]) (by simp[results,results125,go_sem,Q,T,N,O]) rfl ⟨⟨j,i,a,m,r,l,y,b,rfl,?_,P.out,λx hx=>.inl (L x hx)⟩,?_⟩
   ·exact Ls.setO4 (xX D hbB) (λx hx e=>by have:=nC x (L x hx) _ e;omega)
   ·clear jD hb1 hb2
    exact AW
 ·have I:S=X2:=by rw[H.out];rfl
  have P:Hid ((Ak.mk f g c (AE k c.length u) (AE s d.length o) d).net=S):=by show _=_;rw[I,xJ.out]
  have L:Hid (∀x∈(Ak.mk f g c (AE k c.length u) (AE s d.length o) d).vals,x∈U):=λx hx=>by rw[fQ.out];exact D3 _ hx
  clear H I K xX dO;go_enter func125,ntmps125
  go_wp2_with (go_at_call 83;refine(X _ AW).mono ?_;rintro e z ⟨rfl,hb1⟩;obtain⟨A,hf⟩:=Ef hb1;have ab:w.heap.size<z.heap.size:=CB Ax hb1.size;have aa:w.heap.size+1<z.heap.size:=CB AU hb1.size;have C:w.heap.size+1+1<z.heap.size:=CB AU hb1.size;have jD:AO w z:=AW)
  have Q:z.cell? (AK (w.heap.size+1+1) 0)=some (AB 0):=by rw[A _ _ AU];simp[go_sem]
  have T:z.cell? (AK (w.heap.size+1+1) 1)=some (AB 0):=by rw[A _ _ AU];simp[go_sem]
  have N:z.cell? (AK (w.heap.size+1+1) 2)=some AG:=by rw[A _ _ AU];simp[go_sem]
  have O:z.cell? (AK (w.heap.size+1+1) 3)=some AG:=by rw[A _ _ AU];simp[go_sem]
  refine bodyPost_ret (v:=.agg #[AB f,AB g,AE k c.length u,AE s d.length o]) (by simp[results,results125,go_sem,Q,T,N,O]) rfl ⟨⟨f,g,c,k,u,s,o,d,rfl,?_,P.out,λx hx=>.inl (L x hx)⟩,?_⟩
  ·exact Ls.setO4 (uN z jD) (λx hx e=>by have:=nC x (L x hx) _ e;omega)
  ·clear hb1
   exact AW
theorem Rb (a:B=W.heap.size){t:TypeId}:∀j u,[u0,u1][j]?=some u->(W.alloc (.cells #[u0,u1] t)).cell? (((AK B 0):Addr).add j)=some u:=by
 subst a;intro j u h;rw[Addr.add_lit]
 match j,h with
 | 0,h=>simp at h;subst h;simp[go_sem]
 | 1,h=>simp at h;subst h;simp[go_sem]
 | j+2,h=>simp at h
theorem Vj.apart {w w1:World}{v:Value}{es ks:List Ej}{b1:Nat}(h:Vj w base v es)(j:∀m∈ks,EOk w1 b1 m)(l:w.heap.size<=b1)(i:(G6 ks).Pairwise Aside):(v::(G6 es++G6 ks)).Pairwise Aside:=by
 have e:=h.lt;have c:∀y∈G6 ks,∀k,y.ownBlock=some k->w.heap.size<=k:=by
  intro y c k b;obtain⟨m,f,rfl⟩:=Po.1 c;exact CJ l ((j m f).lt k b).1
 have d:=h.2.2;rw[EQ] at d ⊢;refine⟨λy a=>?_,List.pairwise_append.2 ⟨d.2,i,λx g y a=>Ho (λk b=>(e x (CQ _ g) k b).2) (c y a)⟩⟩;rcases List.mem_append.1 a with a | a
 ·exact d.1 y a
 ·exact Ho (λk b=>(e v AU k b).2) (c y a)
theorem gB (x:Stil.Elem)(B base lo:Nat)(j:Option Addr)(f:Nat)(b:List Ej)(o:Value)(w:World)(D:∀W,AO w W->Calls prog 82 #[.agg #[AB x.op,o]] W λe d=>∃u,e=.returned (.agg #[AB x.op,u])/\d.ownsRow W.heap.size 55 3 u x.args.length (Au x.args)/\AO W d)
  (M:Dk w o x.args) (X:w.cell? (AK B 0)=some (.func (.func 82) #[] #[])) (U:B<w.heap.size) (A:Vj w base (AE j b.length f) b) (hl:b.length+1<=1000000) (N:base<=w.heap.size) (H:lo<=w.heap.size) (v:∀k,(Value.slice j b.length f).ownBlock=some k->lo<=k):
  Calls prog 121 #[AE j b.length f, .agg #[AB x.op,o],AH B] w λe d=>∃(a:Option Addr) (c:Nat) (m:Ej),e=.returned (AE a (b.length+1) c)/\m.elem=x/\Vj d base (AE a (b.length+1) c) (b++[m])/\Below lo w d/\∀k,(Value.slice a (b.length+1) c).ownBlock=some k->lo<=k:=by
 have F:=AV D;have z:=AV A;have L:=AV v;obtain⟨S,T,rfl,P⟩:=M;clear P;clear D A v;go_enter func121,ntmps121
 go_wp2_with (first | (go_at_call 82;refine(F _ AW).mono ?_;rintro e w1 ⟨u,rfl,s,V⟩;obtain⟨g,i,hu⟩:=Ah s;subst hu;have t:AO w w1:=AW;have R:=t.size;have C:Hid (EOk w1 w.heap.size (Ej.mk x.op x.args (AE g x.args.length i))/\True):=⟨Joins.ownsRow_le s AU,trivial⟩;have O:Hid ((Ej.mk x.op x.args (AE g x.args.length i)).elem=x):=rfl;clear s) | (at_builtin;refine oe rfl _ _ rfl base lo j f b [(Ej.mk x.op x.args (AE g x.args.length i))] _ 1 rfl rfl ((z.below t).below (Aa _ _)) (λ_=>⟨_,rfl,by exact Rb AU⟩) (λm q=>by rw[List.mem_singleton.1 q];exact(Joins.ownsRow_le (ownsRow_below C.1 (Aa _ _)) N)) (z.apart (w1:=w1) (b1:=w.heap.size) (λm q=>by rw[List.mem_singleton.1 q];exact C.1) (CG _) (G1 _ _)) (by simp only[ED];exact hl) Bw Bw L.out ?_;intro r l I E G y;have K:Hid (Vj I base (AE r (b.length+1) l) (b++[(Ej.mk x.op x.args (AE g x.args.length i))])):=E;have J:Hid (∀k,(Value.slice r (b.length+1) l).ownBlock=some k->lo<=k):=y;clear E y;have Q:=(((Bd t _).mono H)).trans G))
 go_ret;exact⟨r,l,_,rfl,O.out,K.out,Q,J.out⟩
theorem lp (es:List Stil.Elem)(H:∀x∈es,∀(g:Value) (w:World),Dk w g x.args->Calls prog 82 #[.agg #[AB x.op,g]] w λe f=>∃u,e=.returned (.agg #[AB x.op,u])/\f.ownsRow w.heap.size 55 3 u x.args.length (Au x.args)/\AO w f)
  (B:Nat) (v:Value) (w:World) (Y:Iz w v es) (hl:es.length<=999999) (J:w.cell? (AK B 0)=some (.func (.func 82) #[] #[])) (A:B<w.heap.size):
  Calls prog 120 #[v,AG, .func (.func 121) #[] #[AH B]] w λe f=>∃(a:Option Addr) (c:Nat) (ms:List Ej),e=.returned (AE a ms.length c)/\ms.map Ej.elem=es/\Vj f w.heap.size (AE a ms.length c) ms/\AO w f:=by
 obtain⟨a,cap,rfl,I⟩:=Y;have N:=AV I;have O:=AV H;have K:=AV J;clear I H J;go_enter func120,ntmps120
 go_wp2
 go_loopw [1,11] (λd i wr=>∃(j:Nat) (ms:List Ej) (ra:Option Addr) (rc:Nat),j<=es.length/\i=AB j/\d=AE ra ms.length rc/\ms.map Ej.elem=(es.take j)/\Vj wr w.heap.size (AE ra ms.length rc) ms/\AO w wr) (λ_ i _=>es.length - (intOf i).toNat)
 case atStart=>exact⟨0,[],none,0,AQ,rfl,rfl,rfl,Vj.nil _ _,Below.refl _ _⟩
 case round=>
  obtain⟨j,ms,ra,rc,hj,rfl,rfl,hmn,E,hb⟩:=hrel;have aO:=AV hmn;have aU:=AV E;clear hmn E;by_cases s:j<es.length
  ·have S:ms.length=j:=by
    have h1:=congrArg List.length aO.out;simp only[CW,FY] at h1;omega
   obtain⟨b,o,rfl,t,y⟩:=N j s;obtain⟨P,g,x1,r⟩:=y.below hb t;have z:=AV (D2 s);have C:Hid (∀W,AO wr W->Calls prog 121 #[AE ra ms.length rc, .agg #[AB es[j].op,g],AH B] W λe f=>∃(a:Option Addr) (c:Nat) (m:Ej),e=.returned (AE a (ms.length+1) c)/\m.elem=es[j]/\Vj f w.heap.size (AE a (ms.length+1) c) (ms++[m])/\Below w.heap.size W f/\∀k,(Value.slice a (ms.length+1) c).ownBlock=some k->w.heap.size<=k):=by
    intro W l;have q:=hb.trans (l.mono hb.size);exact gB es[j] B w.heap.size w.heap.size ra rc ms g W (λV L=>O es[j] (CN s) g V ((r.below l).below L)) (r.below l) ((q.cell (p:=(AK B 0)) A).trans K.out) (CB A q.size) (aU.below l) AQ q.size q.size (λk Z=>(aU.1.lt k Z).1)
   obtain⟨x,F⟩:=AA (es[j])
   rw[<-F] at C P r z;obtain⟨p0,r0,rfl,dL⟩:=r;clear dL;have ab:=CB t hb.size;clear F y S t
   go_wp2_with (go_at_call 121;refine(C _ AW).mono ?_;rintro e w2 ⟨Q,R,m,rfl,G,D,T,aa⟩;have M:=(show AO w _ from hb.trans ((show AO wr _ from AW).mono hb.size)).trans T;have X:=AV G;have U:=AV D;clear G D aa)
   refine⟨⟨j+1,ms++[m],Q,R,AQ,by go_num,AU,?_,by rw[CM];exact U.out,M⟩,by simp[intOf];omega⟩;rw[z.out,CU,aO.out,GU,X.out]
  ·exact zR
theorem vi (es:List Stil.Elem)(l:∀x∈es,∀(g:Value) (w:World),Dk w g x.args->Calls prog 82 #[.agg #[AB x.op,g]] w λe d=>∃u,e=.returned (.agg #[AB x.op,u])/\d.ownsRow w.heap.size 55 3 u x.args.length (Au x.args)/\AO w d)
  (v:Value) (w:World) (m:Iz w v es) (hl:es.length<=999999):
  Calls prog 81 #[v, .func (.func 82) #[] #[]] w λe d=>∃(a:Option Addr) (c:Nat) (b:List Ej),e=.returned (AE a b.length c)/\b.map Ej.elem=es/\Vj d w.heap.size (AE a b.length c) b/\AO w d:=by
 have o:=AV (λW B h s t=>lp es l B v W (m.below h) hl s t);obtain⟨A,C,rfl,y⟩:=m;clear y l;go_enter func81,ntmps81
 go_wp2_with (go_at_call 120;refine(o _ _ AW (by simp[go_sem]) AU).mono ?_;rintro e r ⟨k,f,b,rfl,i,j,D⟩;have z:=AV i;have q:Hid (Vj r _ (AE k b.length f) b):=j;clear i j)
 go_ret;exact⟨k,f,b,rfl,z.out,q.le AU,AW⟩
theorem kf (e:B=W.heap.size){d a c b:Value}{t:TypeId}:∀j u,[u0,u1,d,a,c,b][j]?=some u->(W.alloc (.cells #[u0,u1,d,a,c,b] t)).cell? (((AK B 0):Addr).add j)=some u:=by
 subst e;intro j u h;rw[Addr.add_lit]
 match j,h with
 | 0,h=>simp at h;subst h;simp[go_sem]
 | 1,h=>simp at h;subst h;simp[go_sem]
 | 2,h=>simp at h;subst h;simp[go_sem]
 | 3,h=>simp at h;subst h;simp[go_sem]
 | 4,h=>simp at h;subst h;simp[go_sem]
 | 5,h=>simp at h;subst h;simp[go_sem]
 | j+6,h=>simp at h
theorem iS (x:Stil.B8)(B base lo:Nat)(l:Option Addr)(j:Nat)(b:List Bq)(A z F r:Value)(w:World)(L:∀W,AO w W->Calls prog 46 #[.agg #[AB x.net.kind,AB x.net.one.op,A,z,F,r]] W λe i=>KX i W.heap.size (Dt x) e/\AO W i)
  (ae:Dk w A x.net.one.args) (ac:Gn w z x.net.kids) (V:Iz w F x.coils) (U:Fe w r x.kids) (ah:w.cell? (AK B 0)=some (.func (.func 46) #[] #[])) (hB:B<w.heap.size) (J:Su w base (AE l b.length j) b) (hl:b.length+1<=1000000) (af:base<=w.heap.size) (ab:lo<=w.heap.size) (N:∀k,(Value.slice l b.length j).ownBlock=some k->lo<=k):
  Calls prog 80 #[AE l b.length j, .agg #[AB x.net.kind,AB x.net.one.op,A,z,F,r],AH B] w λe i=>∃(a:Option Addr) (c:Nat) (m:Bq),e=.returned (AE a (b.length+1) c)/\m.arm=Dt x/\Su i base (AE a (b.length+1) c) (b++[m])/\Below lo w i/\∀k,(Value.slice a (b.length+1) c).ownBlock=some k->lo<=k:=by
 have IH:=AV L;have P:=AV J;have Y:=AV N;obtain⟨p0,r0,rfl,S⟩:=ae;obtain⟨p1,r1,rfl,Z⟩:=ac;obtain⟨p2,r2,rfl,dL⟩:=V;obtain⟨p3,r3,rfl,X⟩:=U;clear S Z dL X;clear L J N;go_enter func80,ntmps80
 go_wp2_with (first | (go_at_call 46;refine(IH _ AW).mono ?_;rintro e w1 ⟨⟨k,op,g,H,o,ns,D,u,d,I,s,f,E,t,rfl,M,K⟩,ag⟩;have y:AO w w1:=AW;have ai:=y.size;have G:Hid (Lt w1 w.heap.size (Bq.mk ⟨k,op,g,AE H g.length o,AE D ns.length u,ns⟩ (AE I d.length s) d (AE E f.length t) f)):=M.le AU;have aO:=AV K;clear M K) | (at_builtin;refine Xo rfl _ _ rfl base lo l j b [(Bq.mk ⟨k,op,g,AE H g.length o,AE D ns.length u,ns⟩ (AE I d.length s) d (AE E f.length t) f)] _ 1 rfl rfl ((P.below y).below (Aa _ _)) (λ_=>⟨_,rfl,by exact kf AU⟩) (λm C=>by rw[List.mem_singleton.1 C];exact((G.1.le af).below (Aa _ _))) (P.apart (w1:=w1) (b1:=w.heap.size) (λm C=>by rw[List.mem_singleton.1 C];exact G.1) (CG _) (by rw[Ro];exact G.2)) (by simp only[ED];exact hl) Bw Bw Y.out ?_;intro v q T Q R O;have iQ:Hid (Su T base (AE v (b.length+1) q) (b++[(Bq.mk ⟨k,op,g,AE H g.length o,AE D ns.length u,ns⟩ (AE I d.length s) d (AE E f.length t) f)])):=Q;have uH:Hid (∀k,(Value.slice v (b.length+1) q).ownBlock=some k->lo<=k):=O;clear Q O;have aa:=(((Bd y _).mono ab)).trans R))
 go_ret;exact⟨v,q,_,rfl,aO.out,iQ.out,aa,uH.out⟩
theorem lx (es:List Stil.B8)(H:∀x∈es,∀(q l s r:Value) (w:World),Dk w q x.net.one.args->Gn w l x.net.kids->Iz w s x.coils->Fe w r x.kids->Calls prog 46 #[.agg #[AB x.net.kind,AB x.net.one.op,q,l,s,r]] w λe g=>KX g w.heap.size (Dt x) e/\AO w g)
  (B:Nat) (v:Value) (w:World) (ab:Fe w v es) (hl:es.length<=999999) (M:w.cell? (AK B 0)=some (.func (.func 46) #[] #[])) (J:B<w.heap.size):
  Calls prog 79 #[v,AG, .func (.func 80) #[] #[AH B]] w λe g=>∃(a:Option Addr) (c:Nat) (ms:List Bq),e=.returned (AE a ms.length c)/\ms.map Bq.arm=es.map Dt/\Su g w.heap.size (AE a ms.length c) ms/\AO w g:=by
 obtain⟨a,cap,rfl,Q⟩:=ab;have S:=AV Q;have IH:=AV H;have R:=AV M;clear Q H M;go_enter func79,ntmps79
 go_wp2
 go_loopw [1,11] (λd i wr=>∃(j:Nat) (ms:List Bq) (ra:Option Addr) (rc:Nat),j<=es.length/\i=AB j/\d=AE ra ms.length rc/\ms.map Bq.arm=(es.take j).map Dt/\Su wr w.heap.size (AE ra ms.length rc) ms/\AO w wr) (λ_ i _=>es.length - (intOf i).toNat)
 case atStart=>exact⟨0,[],none,0,AQ,rfl,rfl,rfl,Su.nil _ _,Below.refl _ _⟩
 case round=>
  obtain⟨j,ms,ra,rc,hj,rfl,rfl,hmn,F,hb⟩:=hrel;have aO:=AV hmn;have aU:=AV F;clear hmn F;by_cases D:j<es.length
  ·have U:ms.length=j:=by
    have Z:=congrArg List.length aO.out;simp only[CW,FY] at Z;omega
   obtain⟨b,o,rfl,E,N⟩:=S j D;obtain⟨I,s,r,x4,x5,C,A⟩:=(Xm.below hb _ _ _ N E).open;obtain⟨x0,x1,q,l,x2,x3,z,y⟩:=I.open;have O:=AV (D2 D);have K:Hid (∀W,AO wr W->Calls prog 80 #[AE ra ms.length rc, .agg #[AB es[j].net.kind,AB es[j].net.one.op,q,l,s,r],AH B] W λe g=>∃(a:Option Addr) (c:Nat) (m:Bq),e=.returned (AE a (ms.length+1) c)/\m.arm=Dt es[j]/\Su g w.heap.size (AE a (ms.length+1) c) (ms++[m])/\Below w.heap.size W g/\∀k,(Value.slice a (ms.length+1) c).ownBlock=some k->w.heap.size<=k):=by
    intro W f;have u:=hb.trans (f.mono hb.size);exact iS es[j] B w.heap.size w.heap.size ra rc ms q l s r W (λac t=>IH es[j] (CN D) q l s r ac ((z.below f).below t) ((y.below f).below t) ((C.below f).below t) ((A.below f).below t)) (z.below f) (y.below f) (C.below f) (A.below f) ((u.cell (p:=(AK B 0)) J).trans R.out) (CB J u.size) (aU.below f) AQ u.size u.size (λk hk=>(aU.1.lt k hk).1)
   obtain⟨x,G⟩:=AA (es[j])
   rw[<-G] at K x0 x1 z y C A O;obtain⟨p0,r0,rfl,T⟩:=z;obtain⟨p1,r1,rfl,rP⟩:=y;obtain⟨p2,r2,rfl,dL⟩:=C;obtain⟨p3,r3,rfl,Y⟩:=A;clear T rP dL Y I;have af:=CB E hb.size;clear G N U E
   go_wp2_with (go_at_call 80;refine(K _ AW).mono ?_;rintro e w2 ⟨a2,c2,m,rfl,L,P,V,ae⟩;have aa:=(show AO w _ from hb.trans ((show AO wr _ from AW).mono hb.size)).trans V;have dO:=AV L;have X:=AV P;clear L P ae)
   refine⟨⟨j+1,ms++[m],a2,c2,AQ,by go_num,AU,?_,by rw[CM];exact X.out,aa⟩,by simp[intOf];omega⟩;rw[O.out,CU,CU,aO.out,GU,GU,dO.out]
  ·exact zR
theorem UO (es:List Stil.B8)(q:∀x∈es,∀(j g k i:Value) (w:World),Dk w j x.net.one.args->Gn w g x.net.kids->Iz w k x.coils->Fe w i x.kids->Calls prog 46 #[.agg #[AB x.net.kind,AB x.net.one.op,j,g,k,i]] w λe d=>KX d w.heap.size (Dt x) e/\AO w d)
  (v:Value) (w:World) (r:Fe w v es) (hl:es.length<=999999):
  Calls prog 45 #[v, .func (.func 46) #[] #[]] w λe d=>∃(a:Option Addr) (c:Nat) (b:List Bq),e=.returned (AE a b.length c)/\b.map Bq.arm=es.map Dt/\Su d w.heap.size (AE a b.length c) b/\AO w d:=by
 have s:=AV (λW B h y A=>lx es q B v W (r.below h) hl y A);obtain⟨D,E,rfl,C⟩:=r;clear C q;go_enter func45,ntmps45
 go_wp2_with (go_at_call 79;refine(s _ _ AW (by simp[go_sem]) AU).mono ?_;rintro e u ⟨o,f,b,rfl,l,m,F⟩;have z:=AV l;have t:Hid (Su u _ (AE o b.length f) b):=m;clear l m)
 go_ret;exact⟨o,f,b,rfl,z.out,t.le AU,AW⟩
