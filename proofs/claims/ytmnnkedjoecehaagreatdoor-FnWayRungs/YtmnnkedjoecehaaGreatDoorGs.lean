import Derived.Test.YtmnnkedjoecehaaGreatDoorY7g
import Derived.Test.YtmnnkedjoecehaaGreatDoorE1
set_option maxHeartbeats 4000000
set_option maxRecDepth 100000
namespace Go.Proofs.YtmnnkedjoecehaaGreatDoor
open Tryz Stil Go.RowKit Go.Sort Go.BigFrame
variable {B base:Nat}{W:World}{u0 u1:Value}
def MQ (w:World)(base:Nat)(vs:List Value)(lo:Nat)(n:Stil.B8)(e:Ending):Prop:=∃(k op:Int) (a:List Stil.CC) (g:Option Addr) (d:Nat) (c:Option Addr) (f:Nat) (b:List Ap),e=.returned (.agg #[AB k,AB op,AE g a.length d,AE c b.length f])/\
 Lt w base ⟨k,op,a,AE g a.length d,AE c b.length f,b⟩/\(Ap.mk k op a (AE g a.length d) (AE c b.length f) b).net=n/\∀x∈(Ap.mk k op a (AE g a.length d) (AE c b.length f) b).vals,x∈vs\/∀q,x.ownBlock=some q->lo<=q
theorem sP (k:Int)(base:Nat)(f:List Ap)(a:Option Addr)(cap:Nat)(w:World)(I:Oc w base (AE a f.length cap) f)(hl:Stil.sizes (f.map Ap.net)<=999999)(ac:base<=w.heap.size):
  Calls prog 130 #[AB k,AE a f.length cap] w λe S=>MQ S base (Gp f) w.heap.size (F8 k (Ce k (f.map Ap.net))) e/\AO w S:=by
 have H:=AV (λW B h y h2=>XS k B base f a cap W y h2 (I.below h) hl (CM ac h.size));obtain⟨F,hF⟩:=AA (Ce k (f.map Ap.net))
 rw[<-hF] at H ⊢;have nG:=AV (λx hx q s=>(I.lt x (CN _ hx) q s).2);clear I hl hF;go_enter func130,ntmps130;go_upto_region 2 with(go_at_call 146;refine(H _ _ AW (by simp[go_sem]) Ax).mono ?_;rintro e d ⟨l,j,b,rfl,Y,ab,K,hsub,hvl⟩;have z:=AV Y;have t:=AV ab;have A:Hid (∀x∈(Value.slice l b.length j)::Gp b,x.ownBlock≠some (w.heap.size+1)):=yCi;have C:Hid (∀x∈(Value.slice l b.length j)::Gp b,x∈Gp f\/∀q,x.ownBlock=some q->w.heap.size<=q):=(by intro x hx;rcases List.mem_cons.1 hx with rfl | hx;(exact .inr (λq s=>CM Ax (hvl q s)));(exact .inl (hsub.subset hx)));clear Y ab hsub hvl)
 obtain⟨o,u⟩:=En K;have ag:w.heap.size+1<d.heap.size:=CB AU K.size;have kd:d.cell? (AL w 0)=some (AB k):=by rw[o _ _ Ax];simp[go_sem]
 have V:d.cell? (AK (w.heap.size+1) 0)=some (AB 0):=by rw[o _ _ AU];simp[go_sem]
 have T:d.cell? (AK (w.heap.size+1) 1)=some (AB 0):=by rw[o _ _ AU];simp[go_sem]
 have z2:d.cell? (AK (w.heap.size+1) 2)=some AG:=by rw[o _ _ AU];simp[go_sem]
 have z3:d.cell? (AK (w.heap.size+1) 3)=some AG:=by rw[o _ _ AU];simp[go_sem]
 have f0:d.frozen? (AK (w.heap.size+1) 0)=false:=by rw[u _ _ AU];simp[go_sem]
 have f1:d.frozen? (AK (w.heap.size+1) 1)=false:=by rw[u _ _ AU];simp[go_sem]
 have f2:d.frozen? (AK (w.heap.size+1) 2)=false:=by rw[u _ _ AU];simp[go_sem]
 have f3:d.frozen? (AK (w.heap.size+1) 3)=false:=by rw[u _ _ AU];simp[go_sem]
 have ae:AO w d:=AW;clear o u K H nG;by_cases y:b.length=1
 ·obtain⟨m,rfl⟩:=List.length_eq_one_iff.1 y
  have i:=t.one 0 AU;simp only[EO] at i;obtain⟨g,c,X,_,ai,_,r⟩:=Bg t.1 AU;obtain⟨a1,a2,a3,a4⟩:=Ph [m] 0 AU;have y0:=r _ _ a1;have N:=r _ _ a2;have Q:=r _ _ a3;have M:=r _ _ a4;simp only[EO,FQ,CV] at y0 N Q M;have L:=(Jt _ _ _).1 i.1;obtain⟨O,Z,hd⟩:=Af L.1;obtain⟨d3,U,aa⟩:=Af L.2.1;simp only[Value.slice.injEq] at X;obtain⟨rfl,_,rfl⟩:=X;have E:Hid (F8 k F=m.net):=by show _=_;rw[<-z.out];rfl
  have J:=AV (λx hx=>A x (CN _ (by rw[Nb];exact hx)));have D:=AV (λx hx=>C x (CN _ (by rw[Nb];exact hx)));clear A z C;obtain⟨mk,R,P,ah,aj,aF⟩:=m;simp only at hd aa y0 N Q M;subst hd;subst aa;have G:=AV i;clear i L r t;simp only[EF]
  go_wp2
  refine bodyPost_ret (v:=.agg #[AB mk,AB R,AE O P.length Z,AE d3 aF.length U]) (by simp[results,results130,go_sem,V,T,z2,z3]) rfl ⟨⟨mk,R,P,O,Z,d3,U,aF,rfl,?_,E.symm,D.out⟩,AW⟩;exact Lt.setO4 G J.out
 ·have E:Hid (F8 k F=⟨k,⟨0,[]⟩,b.map Ap.net⟩):=by
   show _=_
   rw[<-z.out];unfold F8;rw[dif_neg (by simpa using y)]
  have i:=t.net k 0 [] (World.ownsRow_nil _ _ _ _) (λx _=>P9 x);have G:=AV i;have J:Hid (∀x∈(Ap.mk k 0 [] AG (AE l b.length j) b).vals,x.ownBlock≠some (w.heap.size+1)):=by
   intro x hx;rw[Ap.vals_eq] at hx;rcases List.mem_cons.1 hx with rfl | hx
   ·intro e;cases e
   ·exact A x hx
  have D:Hid (∀x∈(Ap.mk k 0 [] AG (AE l b.length j) b).vals,x∈Gp f\/∀q,x.ownBlock=some q->w.heap.size<=q):=by
   intro x hx;rw[Ap.vals_eq] at hx;rcases List.mem_cons.1 hx with rfl | hx
   ·exact .inr (λq s=>by cases s)
   ·exact C x hx
  clear C;have af:((b.length:Int)==1)=false:=by rw[CS];omega
  have l7:¬((b.length:Int)=1):=AQ
  clear i t A z
  go_wp2
  refine bodyPost_ret (v:=.agg #[AB k,AB 0,AG,AE l b.length j]) (by simp[results,results130,go_sem,V,T,z2,z3]) rfl ⟨⟨k,0,[],none,0,l,j,b,rfl,?_,by rw[Ap.net_eq,E.out],D.out⟩,AW⟩;exact Lt.setO4 G J.out
theorem Ez {ob:Obj}{c p:Nat}(h:c<W.heap.size):(W.alloc ob).cell? (AK c p)=W.cell? (AK c p):=(Aa W ob).cell (p:=(AK c p)) h
theorem Oc.pair {w:World}{b a:Ap}(h1:MOk w base b)(g:MOk w base a)(l:(b.vals++a.vals).Pairwise Aside)(j:base<=w.heap.size):Oc (w.alloc (.cells #[AB b.kind,AB b.op,b.av,b.kv,AB a.kind,AB a.op,a.av,a.kv] 59)) base (AE (some (AL w 0)) 2 2) [b,a]:=by
 have i:Gp [b,a]=b.vals++a.vals:=by simp[Gp]
 refine⟨?_,λx f=>?_,?_⟩
 ·exact World.ownsRow_lit w #[AB b.kind,AB b.op,b.av,b.kv,AB a.kind,AB a.op,a.av,a.kv] 2 j A6 rfl
 ·rcases List.mem_cons.1 f with rfl | f
  ·exact h1.below (Aa _ _)
  ·rw[List.mem_singleton.1 f];exact g.below (Aa _ _)
 ·rw[i,DX]
  refine⟨λy c=>(He (n:=w.heap.size) (λk d=>?_) (λk d=>?_)).symm,l⟩
  ·rcases List.mem_append.1 c with c | c
   ·exact(h1.lt b y c k d).2
   ·exact(g.lt a y c k d).2
  ·have e:w.heap.size=k:=by simpa[Value.ownBlock] using d
   omega
theorem zv0 {p:Prop}(h:p:=by
 refine Lt.setO4 aT (λx hx e=>?_)
 rcases HW.out x hx with h | h
 ·have:=nG x h _ e;omega
 ·have:=h _ e;omega):p:=h
theorem zy0 {p:Prop}(h:p:=by
 have hbC:=(Bi hbB _).trans (hb3.mono (by have:=hbB.size;simp;omega))
 clear jG hbB hb1 hb2 hb3
 exact AW):p:=h
theorem sN (i g:Int)(a:List Stil.CC)(u:Option Addr)(l:Nat)(y:Option Addr)(s:Nat)(c:List Ap)(j f:Int)(d:List Stil.CC)(k:Option Addr)(o:Nat)(m:Option Addr)(r:Nat)(b:List Ap)(base:Nat)(w:World)
  (h1:MOk w base (Ap.mk i g a (AE u a.length l) (AE y c.length s) c)) (T:MOk w base (Ap.mk j f d (AE k d.length o) (AE m b.length r) b)) (hp:((Ap.mk i g a (AE u a.length l) (AE y c.length s) c).vals++(Ap.mk j f d (AE k d.length o) (AE m b.length r) b).vals).Pairwise Aside) (ah:base<=w.heap.size) (hs:Stil.sizes [(Ap.mk i g a (AE u a.length l) (AE y c.length s) c).net,(Ap.mk j f d (AE k d.length o) (AE m b.length r) b).net]<=999999) (ai:Dz (Ap.mk i g a (AE u a.length l) (AE y c.length s) c).net) (X:Dz (Ap.mk j f d (AE k d.length o) (AE m b.length r) b).net):
  Calls prog 131 #[.agg #[AB i,AB g,AE u a.length l,AE y c.length s], .agg #[AB j,AB f,AE k d.length o,AE m b.length r]] w λe G=>MQ G base ((Ap.mk i g a (AE u a.length l) (AE y c.length s) c).vals++(Ap.mk j f d (AE k d.length o) (AE m b.length r) b).vals) w.heap.size (L8 (Ap.mk i g a (AE u a.length l) (AE y c.length s) c).net (Ap.mk j f d (AE k d.length o) (AE m b.length r) b).net) e/\AO w G:=by
 obtain⟨f1,f2⟩:=MOk.from _ h1;obtain⟨f3,f4⟩:=MOk.from _ T;have fM:Hid (∀W,AO w W->Calls prog 91 #[.agg #[AB i,AB g,AE u a.length l,AE y c.length s]] W (AN W (.bool (Am (Ap.mk i g a (AE u a.length l) (AE y c.length s) c).net)))):=by
  intro W h;have:=Ve (Ap.mk i g a (AE u a.length l) (AE y c.length s) c).net _ _ W (f1.at.below h) (f2.at.below h) ai
  have e:=Ap.net_eq (Ap.mk i g a (AE u a.length l) (AE y c.length s) c);have qL:(Ap.mk i g a (AE u a.length l) (AE y c.length s) c).net.kind=i:=by rw[e]
  have qJ:(Ap.mk i g a (AE u a.length l) (AE y c.length s) c).net.one.op=g:=by rw[e]
  rw[qL,qJ] at this;exact this
 have Z:Hid (∀W,AO w W->Calls prog 91 #[.agg #[AB j,AB f,AE k d.length o,AE m b.length r]] W (AN W (.bool (Am (Ap.mk j f d (AE k d.length o) (AE m b.length r) b).net)))):=by
  intro W h;have:=Ve (Ap.mk j f d (AE k d.length o) (AE m b.length r) b).net _ _ W (f3.at.below h) (f4.at.below h) X
  have e:=Ap.net_eq (Ap.mk j f d (AE k d.length o) (AE m b.length r) b);have qL:(Ap.mk j f d (AE k d.length o) (AE m b.length r) b).net.kind=j:=by rw[e]
  have qJ:(Ap.mk j f d (AE k d.length o) (AE m b.length r) b).net.one.op=f:=by rw[e]
  rw[qL,qJ] at this;exact this
 have ac:=List.pairwise_append.1 hp;have yJ:Hid (∀W,AO w W->Lt W base (Ap.mk i g a (AE u a.length l) (AE y c.length s) c)):=λW h=>⟨h1.below h,ac.1⟩
 have uO:Hid (∀W,AO w W->Lt W base (Ap.mk j f d (AE k d.length o) (AE m b.length r) b)):=λW h=>⟨T.below h,ac.2.1⟩
 have nG:Hid (∀x∈(Ap.mk i g a (AE u a.length l) (AE y c.length s) c).vals++(Ap.mk j f d (AE k d.length o) (AE m b.length r) b).vals,∀q,x.ownBlock=some q->q<w.heap.size):=by
  intro x hx q J;rcases List.mem_append.1 hx with hx | hx
  ·exact(h1.lt _ x hx q J).2
  ·exact(T.lt _ x hx q J).2
 have K:Hid (∀W,AO w W->Calls prog 130 #[AB 2,AE (some (AL W 0)) 2 2] (W.alloc (.cells #[AB i,AB g,AE u a.length l,AE y c.length s,AB j,AB f,AE k d.length o,AE m b.length r] 59)) λe G=>MQ G base ((Ap.mk i g a (AE u a.length l) (AE y c.length s) c).vals++(Ap.mk j f d (AE k d.length o) (AE m b.length r) b).vals) (W.alloc (.cells #[AB i,AB g,AE u a.length l,AE y c.length s,AB j,AB f,AE k d.length o,AE m b.length r] 59)).heap.size (F8 2 (Ce 2 [(Ap.mk i g a (AE u a.length l) (AE y c.length s) c).net,(Ap.mk j f d (AE k d.length o) (AE m b.length r) b).net])) e/\Below (W.alloc (.cells #[AB i,AB g,AE u a.length l,AE y c.length s,AB j,AB f,AE k d.length o,AE m b.length r] 59)).heap.size (W.alloc (.cells #[AB i,AB g,AE u a.length l,AE y c.length s,AB j,AB f,AE k d.length o,AE m b.length r] 59)) G):=by
  intro W h;have hr:=Oc.pair (h1.below h) (T.below h) hp (CM ah h.size);have:=sP 2 base [(Ap.mk i g a (AE u a.length l) (AE y c.length s) c),(Ap.mk j f d (AE k d.length o) (AE m b.length r) b)] (some (AL W 0)) 2 _ hr hs (CM ah (CM h.size AU))
  have hv:Gp [(Ap.mk i g a (AE u a.length l) (AE y c.length s) c),(Ap.mk j f d (AE k d.length o) (AE m b.length r) b)]=(Ap.mk i g a (AE u a.length l) (AE y c.length s) c).vals++(Ap.mk j f d (AE k d.length o) (AE m b.length r) b).vals:=by simp[Gp]
  rw[hv] at this;exact this
 obtain⟨S,hS⟩:=AA (L8 (Ap.mk i g a (AE u a.length l) (AE y c.length s) c).net (Ap.mk j f d (AE k d.length o) (AE m b.length r) b).net)
 have H:Hid (S=if Am (Ap.mk i g a (AE u a.length l) (AE y c.length s) c).net then(Ap.mk j f d (AE k d.length o) (AE m b.length r) b).net else if Am (Ap.mk j f d (AE k d.length o) (AE m b.length r) b).net then(Ap.mk i g a (AE u a.length l) (AE y c.length s) c).net else F8 2 (Ce 2 [(Ap.mk i g a (AE u a.length l) (AE y c.length s) c).net,(Ap.mk j f d (AE k d.length o) (AE m b.length r) b).net])):=hS;rw[<-hS];obtain⟨L,al⟩:∃t,t=Am (Ap.mk i g a (AE u a.length l) (AE y c.length s) c).net:=⟨_,rfl⟩
 obtain⟨t2,an⟩:∃t,t=Am (Ap.mk j f d (AE k d.length o) (AE m b.length r) b).net:=⟨_,rfl⟩
 rw[<-al] at fM H;rw[<-an] at Z H;obtain⟨M,xM⟩:=AA ((Ap.mk i g a (AE u a.length l) (AE y c.length s) c).vals++(Ap.mk j f d (AE k d.length o) (AE m b.length r) b).vals)
 have fU:=AV xM;rw[<-xM] at nG K ⊢;obtain⟨X1,af⟩:∃ae,ae=(Ap.mk i g a (AE u a.length l) (AE y c.length s) c).net:=⟨_,rfl⟩
 obtain⟨X2,ag⟩:∃ae,ae=(Ap.mk j f d (AE k d.length o) (AE m b.length r) b).net:=⟨_,rfl⟩
 have au:=AV af;have yB:=AV ag;rw[<-af,<-ag] at K H;clear hS al an xM af ag f1 f2 f3 f4 h1 T hp ac hs ai X;cases L
 ·cases t2
  ·have I:S=F8 2 (Ce 2 [X1,X2]):=by rw[H.out];rfl
   rw[<-I] at K;clear H I yJ uO;go_enter func131,ntmps131;go_upto_region 3 with(go_at_call 91;refine(fM _ AW).mono ?_;rintro e z ⟨rfl,hb1⟩;obtain⟨A,hf⟩:=En hb1;have aa:w.heap.size<z.heap.size:=CB Ax hb1.size;have ab:w.heap.size+1<z.heap.size:=CB AU hb1.size;have C:w.heap.size+1+1<z.heap.size:=CB AU hb1.size;have jG:AO w z:=AW)
   go_upto_region 5 with(go_at_call 91;refine(Z _ AW).mono ?_;rintro e D ⟨rfl,hb2⟩;obtain⟨F,X⟩:=En hb2;have ap:=CB aa hb2.size;have ar:=CB ab hb2.size;have E:=CB C hb2.size;have hbB:AO w D:=yDe)
   go_wp2_with (go_at_call 130;refine(K D hbB).mono ?_;rintro e w3 ⟨⟨mk,aH,Y,s0,t0,s1,L,aF,rfl,aj,ao,ak⟩,hb3⟩;obtain⟨V,aw⟩:=En hb3;have av:=CB (CB E AU) hb3.size;have aT:=AV aj;have O:=AV ao;have HW:Hid (∀x∈(Ap.mk mk aH Y (AE s0 Y.length t0) (AE s1 aF.length L) aF).vals,x∈M\/∀q,x.ownBlock=some q->D.heap.size<=q):=(λx hx=>(ak x hx).imp id (λh q J=>CM AU (h q J)));clear aj ao ak)
   have N:w3.cell? (AK (w.heap.size+1+1) 0)=some (AB 0):=by rw[V _ _ (CB E AU),Ez E,F _ _ C,A _ _ AU];simp[go_sem]
   have R:w3.cell? (AK (w.heap.size+1+1) 1)=some (AB 0):=by rw[V _ _ (CB E AU),Ez E,F _ _ C,A _ _ AU];simp[go_sem]
   have P:w3.cell? (AK (w.heap.size+1+1) 2)=some AG:=by rw[V _ _ (CB E AU),Ez E,F _ _ C,A _ _ AU];simp[go_sem]
   have U:w3.cell? (AK (w.heap.size+1+1) 3)=some AG:=by rw[V _ _ (CB E AU),Ez E,F _ _ C,A _ _ AU];simp[go_sem]
   refine bodyPost_ret (v:=.agg #[AB mk,AB aH,AE s0 Y.length t0,AE s1 aF.length L]) (by simp[results,results131,go_sem,N,R,P,U]) rfl ⟨⟨mk,aH,Y,s0,t0,s1,L,aF,rfl,?_,O.out,λx hx=>(HW x hx).imp id (λh q J=>by have:=h q J;omega)⟩,?_⟩
   ·exact zv0
   ·exact zy0
  ·have I:S=X1:=by rw[H.out];rfl
   have O:Hid ((Ap.mk i g a (AE u a.length l) (AE y c.length s) c).net=S):=by show _=_;rw[I,au.out]
   have Q:Hid (∀x∈(Ap.mk i g a (AE u a.length l) (AE y c.length s) c).vals,x∈M):=λx hx=>by rw[fU.out];exact E0 _ hx
   clear H I K uO;go_enter func131,ntmps131;go_upto_region 3 with(go_at_call 91;refine(fM _ AW).mono ?_;rintro e z ⟨rfl,hb1⟩;obtain⟨A,hf⟩:=En hb1;have aa:w.heap.size<z.heap.size:=CB Ax hb1.size;have ab:w.heap.size+1<z.heap.size:=CB AU hb1.size;have C:w.heap.size+1+1<z.heap.size:=CB AU hb1.size;have jG:AO w z:=AW)
   go_wp2_with (go_at_call 91;refine(Z _ AW).mono ?_;rintro e D ⟨rfl,hb2⟩;obtain⟨F,X⟩:=En hb2;have ap:=CB aa hb2.size;have ar:=CB ab hb2.size;have E:=CB C hb2.size;have hbB:AO w D:=yDe)
   have N:D.cell? (AK (w.heap.size+1+1) 0)=some (AB 0):=by rw[F _ _ C,A _ _ AU];simp[go_sem]
   have R:D.cell? (AK (w.heap.size+1+1) 1)=some (AB 0):=by rw[F _ _ C,A _ _ AU];simp[go_sem]
   have P:D.cell? (AK (w.heap.size+1+1) 2)=some AG:=by rw[F _ _ C,A _ _ AU];simp[go_sem]
   have U:D.cell? (AK (w.heap.size+1+1) 3)=some AG:=by rw[F _ _ C,A _ _ AU];simp[go_sem]
   refine bodyPost_ret (v:=.agg #[AB i,AB g,AE u a.length l,AE y c.length s]) (by simp[results,results131,go_sem,N,R,P,U]) rfl ⟨⟨i,g,a,u,l,y,s,c,rfl,?_,O.out,λx hx=>.inl (Q x hx)⟩,?_⟩
   ·exact Lt.setO4 (yJ D hbB) (λx hx e=>by have:=nG x (Q x hx) _ e;omega)
   ·clear jG hb1 hb2
    exact AW
 ·have I:S=X2:=by rw[H.out];rfl
  have O:Hid ((Ap.mk j f d (AE k d.length o) (AE m b.length r) b).net=S):=by show _=_;rw[I,yB.out]
  have Q:Hid (∀x∈(Ap.mk j f d (AE k d.length o) (AE m b.length r) b).vals,x∈M):=λx hx=>by rw[fU.out];exact Da _ hx
  clear H I K yJ Z;go_enter func131,ntmps131
  go_wp2_with (go_at_call 91;refine(fM _ AW).mono ?_;rintro e z ⟨rfl,hb1⟩;obtain⟨A,hf⟩:=En hb1;have aa:w.heap.size<z.heap.size:=CB Ax hb1.size;have ab:w.heap.size+1<z.heap.size:=CB AU hb1.size;have C:w.heap.size+1+1<z.heap.size:=CB AU hb1.size;have jG:AO w z:=AW)
  have N:z.cell? (AK (w.heap.size+1+1) 0)=some (AB 0):=by rw[A _ _ AU];simp[go_sem]
  have R:z.cell? (AK (w.heap.size+1+1) 1)=some (AB 0):=by rw[A _ _ AU];simp[go_sem]
  have P:z.cell? (AK (w.heap.size+1+1) 2)=some AG:=by rw[A _ _ AU];simp[go_sem]
  have U:z.cell? (AK (w.heap.size+1+1) 3)=some AG:=by rw[A _ _ AU];simp[go_sem]
  refine bodyPost_ret (v:=.agg #[AB j,AB f,AE k d.length o,AE m b.length r]) (by simp[results,results131,go_sem,N,R,P,U]) rfl ⟨⟨j,f,d,k,o,m,r,b,rfl,?_,O.out,λx hx=>.inl (Q x hx)⟩,?_⟩
  ·exact Lt.setO4 (uO z jG) (λx hx e=>by have:=nG x (Q x hx) _ e;omega)
  ·clear hb1
   exact AW
theorem Rr (a:B=W.heap.size){t:TypeId}:∀j u,[u0,u1][j]?=some u->(W.alloc (.cells #[u0,u1] t)).cell? (((AK B 0):Addr).add j)=some u:=by
 subst a;intro j u h;rw[Addr.add_lit]
 match j,h with
 | 0,h=>simp at h;subst h;simp[go_sem]
 | 1,h=>simp at h;subst h;simp[go_sem]
 | j+2,h=>simp at h
theorem Vy.apart {w w1:World}{v:Value}{es ks:List Eo}{b1:Nat}(h:Vy w base v es)(l:∀m∈ks,EOk w1 b1 m)(f:w.heap.size<=b1)(j:(Gv ks).Pairwise Aside):(v::(Gv es++Gv ks)).Pairwise Aside:=by
 have e:=h.lt;have c:∀y∈Gv ks,∀k,y.ownBlock=some k->w.heap.size<=k:=by
  intro y c k b;obtain⟨m,g,rfl⟩:=P6.1 c;exact CM f ((l m g).lt k b).1
 have d:=h.2.2;rw[DX] at d ⊢;refine⟨λy a=>?_,List.pairwise_append.2 ⟨d.2,j,λx i y a=>He (λk b=>(e x (CN _ i) k b).2) (c y a)⟩⟩;rcases List.mem_append.1 a with a | a
 ·exact d.1 y a
 ·exact He (λk b=>(e v AU k b).2) (c y a)
theorem i5 (x:Stil.Elem)(B base lo:Nat)(j:Option Addr)(i:Nat)(b:List Eo)(l:Value)(w:World)(A:∀W,AO w W->Calls prog 20 #[.agg #[AB x.op,l]] W λe d=>∃u,e=.returned (.agg #[AB x.op,u])/\d.ownsRow W.heap.size 111 3 u x.args.length (Ar x.args)/\AO W d)
  (F:Dj w l x.args) (X:w.cell? (AK B 0)=some (.func (.func 20) #[] #[])) (R:B<w.heap.size) (E:Vy w base (AE j b.length i) b) (hl:b.length+1<=1000000) (H:base<=w.heap.size) (I:lo<=w.heap.size) (v:∀k,(Value.slice j b.length i).ownBlock=some k->lo<=k):
  Calls prog 127 #[AE j b.length i, .agg #[AB x.op,l],AH B] w λe d=>∃(a:Option Addr) (c:Nat) (m:Eo),e=.returned (AE a (b.length+1) c)/\m.elem=x/\Vy d base (AE a (b.length+1) c) (b++[m])/\Below lo w d/\∀k,(Value.slice a (b.length+1) c).ownBlock=some k->lo<=k:=by
 have L:=AV A;have y:=AV E;have M:=AV v;obtain⟨S,U,rfl,K⟩:=F;clear K;clear A E v;go_enter func127,ntmps127
 go_wp2_with (first | (go_at_call 20;refine(L _ AW).mono ?_;rintro e w1 ⟨u,rfl,r,T⟩;obtain⟨g,f,hu⟩:=Af r;subst hu;have t:AO w w1:=AW;have V:=t.size;have C:Hid (EOk w1 w.heap.size (Eo.mk x.op x.args (AE g x.args.length f))/\True):=⟨Joins.ownsRow_le r AU,trivial⟩;have P:Hid ((Eo.mk x.op x.args (AE g x.args.length f)).elem=x):=rfl;clear r) | (at_builtin;refine oe rfl _ _ rfl base lo j i b [(Eo.mk x.op x.args (AE g x.args.length f))] _ 1 rfl rfl ((y.below t).below (Aa _ _)) (λ_=>⟨_,rfl,by exact Rr AU⟩) (λm q=>by rw[List.mem_singleton.1 q];exact(Joins.ownsRow_le (ownsRow_below C.1 (Aa _ _)) H)) (y.apart (w1:=w1) (b1:=w.heap.size) (λm q=>by rw[List.mem_singleton.1 q];exact C.1) (CG _) (G2 _ _)) (by simp only[EF];exact hl) Bn Bn M.out ?_;intro o s N z J D;have Q:Hid (Vy N base (AE o (b.length+1) s) (b++[(Eo.mk x.op x.args (AE g x.args.length f))])):=z;have G:Hid (∀k,(Value.slice o (b.length+1) s).ownBlock=some k->lo<=k):=D;clear z D;have O:=(((Bi t _).mono I)).trans J))
 go_ret;exact⟨o,s,_,rfl,P.out,Q.out,O,G.out⟩
theorem lp (es:List Stil.Elem)(D:∀x∈es,∀(g:Value) (w:World),Dj w g x.args->Calls prog 20 #[.agg #[AB x.op,g]] w λe f=>∃u,e=.returned (.agg #[AB x.op,u])/\f.ownsRow w.heap.size 111 3 u x.args.length (Ar x.args)/\AO w f)
  (B:Nat) (v:Value) (w:World) (M:Ir w v es) (hl:es.length<=999999) (J:w.cell? (AK B 0)=some (.func (.func 20) #[] #[])) (z:B<w.heap.size):
  Calls prog 126 #[v,AG, .func (.func 127) #[] #[AH B]] w λe f=>∃(a:Option Addr) (c:Nat) (ms:List Eo),e=.returned (AE a ms.length c)/\ms.map Eo.elem=es/\Vy f w.heap.size (AE a ms.length c) ms/\AO w f:=by
 obtain⟨a,cap,rfl,F⟩:=M;have U:=AV F;have X:=AV D;have dH:=AV J;clear F D J;go_enter func126,ntmps126
 go_wp2
 go_loopw [1,11] (λd i wr=>∃(j:Nat) (ms:List Eo) (ra:Option Addr) (rc:Nat),j<=es.length/\i=AB j/\d=AE ra ms.length rc/\ms.map Eo.elem=(es.take j)/\Vy wr w.heap.size (AE ra ms.length rc) ms/\AO w wr) (λ_ i _=>es.length - (intOf i).toNat)
 case atStart=>exact⟨0,[],none,0,AQ,rfl,rfl,rfl,Vy.nil _ _,Below.refl _ _⟩
 case round=>
  obtain⟨j,ms,ra,rc,hj,rfl,rfl,hmn,C,hb⟩:=hrel;have aO:=AV hmn;have aU:=AV C;clear hmn C;by_cases t:j<es.length
  ·have Z:ms.length=j:=by
    have L:=congrArg List.length aO.out;simp only[CW,FP] at L;omega
   obtain⟨b,o,rfl,s,y⟩:=U j t;obtain⟨x0,g,x1,l⟩:=y.below hb s;have G:=AV (EB t);have E:Hid (∀W,AO wr W->Calls prog 127 #[AE ra ms.length rc, .agg #[AB es[j].op,g],AH B] W λe f=>∃(a:Option Addr) (c:Nat) (m:Eo),e=.returned (AE a (ms.length+1) c)/\m.elem=es[j]/\Vy f w.heap.size (AE a (ms.length+1) c) (ms++[m])/\Below w.heap.size W f/\∀k,(Value.slice a (ms.length+1) c).ownBlock=some k->w.heap.size<=k):=by
    intro W r;have q:=hb.trans (r.mono hb.size);exact i5 es[j] B w.heap.size w.heap.size ra rc ms g W (λV K=>X es[j] (CJ t) g V ((l.below r).below K)) (l.below r) ((q.cell (p:=(AK B 0)) z).trans dH.out) (CB z q.size) (aU.below r) AQ q.size q.size (λk O=>(aU.1.lt k O).1)
   obtain⟨x,I⟩:=AA (es[j])
   rw[<-I] at E x0 l G;obtain⟨p0,r0,rfl,Y⟩:=l;clear Y;have aa:=CB s hb.size;clear I y Z s
   go_wp2_with (go_at_call 127;refine(E _ AW).mono ?_;rintro e w2 ⟨N,c2,m,rfl,H,A,P,Q⟩;have S:=(show AO w _ from hb.trans ((show AO wr _ from AW).mono hb.size)).trans P;have T:=AV H;have R:=AV A;clear H A Q)
   refine⟨⟨j+1,ms++[m],N,c2,AQ,by go_num,AU,?_,by rw[CO];exact R.out,S⟩,by simp[intOf];omega⟩;rw[G.out,CU,aO.out,G3,T.out]
  ·exact zR
theorem vh (es:List Stil.Elem)(j:∀x∈es,∀(f:Value) (w:World),Dj w f x.args->Calls prog 20 #[.agg #[AB x.op,f]] w λe d=>∃u,e=.returned (.agg #[AB x.op,u])/\d.ownsRow w.heap.size 111 3 u x.args.length (Ar x.args)/\AO w d)
  (v:Value) (w:World) (g:Ir w v es) (hl:es.length<=999999):
  Calls prog 90 #[v, .func (.func 20) #[] #[]] w λe d=>∃(a:Option Addr) (c:Nat) (b:List Eo),e=.returned (AE a b.length c)/\b.map Eo.elem=es/\Vy d w.heap.size (AE a b.length c) b/\AO w d:=by
 have t:=AV (λW B h q o=>lp es j B v W (g.below h) hl q o);obtain⟨A,D,rfl,y⟩:=g;clear y j;go_enter func90,ntmps90
 go_wp2_with (go_at_call 126;refine(t _ _ AW (by simp[go_sem]) AU).mono ?_;rintro e s ⟨m,k,b,rfl,l,i,C⟩;have z:=AV l;have r:Hid (Vy s _ (AE m b.length k) b):=i;clear l i)
 go_ret;exact⟨m,k,b,rfl,z.out,r.le AU,AW⟩
theorem kh (e:B=W.heap.size){a b c d:Value}{t:TypeId}:∀j u,[u0,u1,a,b,c,d][j]?=some u->(W.alloc (.cells #[u0,u1,a,b,c,d] t)).cell? (((AK B 0):Addr).add j)=some u:=by
 subst e;intro j u h;rw[Addr.add_lit]
 match j,h with
 | 0,h=>simp at h;subst h;simp[go_sem]
 | 1,h=>simp at h;subst h;simp[go_sem]
 | 2,h=>simp at h;subst h;simp[go_sem]
 | 3,h=>simp at h;subst h;simp[go_sem]
 | 4,h=>simp at h;subst h;simp[go_sem]
 | 5,h=>simp at h;subst h;simp[go_sem]
 | j+6,h=>simp at h
theorem i6 (x:Stil.B9)(B base lo:Nat)(l:Option Addr)(j:Nat)(b:List Bz)(q C D o:Value)(w:World)(P:∀W,AO w W->Calls prog 57 #[.agg #[AB x.net.kind,AB x.net.one.op,q,C,D,o]] W λe i=>K0 i W.heap.size (Bo x) e/\AO W i)
  (R:Dj w q x.net.one.args) (aa:Gg w C x.net.kids) (Y:Ir w D x.coils) (V:E8 w o x.kids) (ag:w.cell? (AK B 0)=some (.func (.func 57) #[] #[])) (hB:B<w.heap.size) (Q:Tj w base (AE l b.length j) b) (hl:b.length+1<=1000000) (U:base<=w.heap.size) (X:lo<=w.heap.size) (J:∀k,(Value.slice l b.length j).ownBlock=some k->lo<=k):
  Calls prog 89 #[AE l b.length j, .agg #[AB x.net.kind,AB x.net.one.op,q,C,D,o],AH B] w λe i=>∃(a:Option Addr) (c:Nat) (m:Bz),e=.returned (AE a (b.length+1) c)/\m.arm=Bo x/\Tj i base (AE a (b.length+1) c) (b++[m])/\Below lo w i/\∀k,(Value.slice a (b.length+1) c).ownBlock=some k->lo<=k:=by
 have IH:=AV P;have N:=AV Q;have kS:=AV J;obtain⟨p0,r0,rfl,T⟩:=R;obtain⟨p1,r1,rfl,rP⟩:=aa;obtain⟨p2,r2,rfl,dL⟩:=Y;obtain⟨p3,r3,rfl,lU⟩:=V;clear T rP dL lU;clear P Q J;go_enter func89,ntmps89
 go_wp2_with (first | (go_at_call 57;refine(IH _ AW).mono ?_;rintro e w1 ⟨⟨k,op,d,z,y,ns,t,H,g,v,F,f,r,G,rfl,M,L⟩,ae⟩;have I:AO w w1:=AW;have af:=I.size;have E:Hid (Lu w1 w.heap.size (Bz.mk ⟨k,op,d,AE z d.length y,AE t ns.length H,ns⟩ (AE v g.length F) g (AE r f.length G) f)):=M.le AU;have aO:=AV L;clear M L) | (at_builtin;refine X6 rfl _ _ rfl base lo l j b [(Bz.mk ⟨k,op,d,AE z d.length y,AE t ns.length H,ns⟩ (AE v g.length F) g (AE r f.length G) f)] _ 1 rfl rfl ((N.below I).below (Aa _ _)) (λ_=>⟨_,rfl,by exact kh AU⟩) (λm s=>by rw[List.mem_singleton.1 s];exact((E.1.le U).below (Aa _ _))) (N.apart (w1:=w1) (b1:=w.heap.size) (λm s=>by rw[List.mem_singleton.1 s];exact E.1) (CG _) (by rw[Rz];exact E.2)) (by simp only[EF];exact hl) Bn Bn kS.out ?_;intro A u w6 O ab K;have Z:Hid (Tj w6 base (AE A (b.length+1) u) (b++[(Bz.mk ⟨k,op,d,AE z d.length y,AE t ns.length H,ns⟩ (AE v g.length F) g (AE r f.length G) f)])):=O;have S:Hid (∀k,(Value.slice A (b.length+1) u).ownBlock=some k->lo<=k):=K;clear O K;have ac:=(((Bi I _).mono X)).trans ab))
 go_ret;exact⟨A,u,_,rfl,aO.out,Z.out,ac,S.out⟩
theorem lx (es:List Stil.B9)(K:∀x∈es,∀(q r s l:Value) (w:World),Dj w q x.net.one.args->Gg w r x.net.kids->Ir w s x.coils->E8 w l x.kids->Calls prog 57 #[.agg #[AB x.net.kind,AB x.net.one.op,q,r,s,l]] w λe g=>K0 g w.heap.size (Bo x) e/\AO w g)
  (B:Nat) (v:Value) (w:World) (Y:E8 w v es) (hl:es.length<=999999) (I:w.cell? (AK B 0)=some (.func (.func 57) #[] #[])) (J:B<w.heap.size):
  Calls prog 88 #[v,AG, .func (.func 89) #[] #[AH B]] w λe g=>∃(a:Option Addr) (c:Nat) (ms:List Bz),e=.returned (AE a ms.length c)/\ms.map Bz.arm=es.map Bo/\Tj g w.heap.size (AE a ms.length c) ms/\AO w g:=by
 obtain⟨a,cap,rfl,P⟩:=Y;have HA:=AV P;have IH:=AV K;have dH:=AV I;clear P K I;go_enter func88,ntmps88
 go_wp2
 go_loopw [1,11] (λd i wr=>∃(j:Nat) (ms:List Bz) (ra:Option Addr) (rc:Nat),j<=es.length/\i=AB j/\d=AE ra ms.length rc/\ms.map Bz.arm=(es.take j).map Bo/\Tj wr w.heap.size (AE ra ms.length rc) ms/\AO w wr) (λ_ i _=>es.length - (intOf i).toNat)
 case atStart=>exact⟨0,[],none,0,AQ,rfl,rfl,rfl,Tj.nil _ _,Below.refl _ _⟩
 case round=>
  obtain⟨j,ms,ra,rc,hj,rfl,rfl,hmn,O,hb⟩:=hrel;have aO:=AV hmn;have aU:=AV O;clear hmn O;by_cases D:j<es.length
  ·have U:ms.length=j:=by
    have S:=congrArg List.length aO.out;simp only[CW,FP] at S;omega
   obtain⟨b,o,rfl,E,F⟩:=HA j D;obtain⟨N,s,l,x4,x5,A,t⟩:=(X4.below hb _ _ _ F E).open;obtain⟨x0,R,q,r,x2,x3,y,u⟩:=N.open;have H:=AV (EB D);have L:Hid (∀W,AO wr W->Calls prog 89 #[AE ra ms.length rc, .agg #[AB es[j].net.kind,AB es[j].net.one.op,q,r,s,l],AH B] W λe g=>∃(a:Option Addr) (c:Nat) (m:Bz),e=.returned (AE a (ms.length+1) c)/\m.arm=Bo es[j]/\Tj g w.heap.size (AE a (ms.length+1) c) (ms++[m])/\Below w.heap.size W g/\∀k,(Value.slice a (ms.length+1) c).ownBlock=some k->w.heap.size<=k):=by
    intro W f;have C:=hb.trans (f.mono hb.size);exact i6 es[j] B w.heap.size w.heap.size ra rc ms q r s l W (λV z=>IH es[j] (CJ D) q r s l V ((y.below f).below z) ((u.below f).below z) ((A.below f).below z) ((t.below f).below z)) (y.below f) (u.below f) (A.below f) (t.below f) ((C.cell (p:=(AK B 0)) J).trans dH.out) (CB J C.size) (aU.below f) AQ C.size C.size (λk Z=>(aU.1.lt k Z).1)
   obtain⟨x,Q⟩:=AA (es[j])
   rw[<-Q] at L x0 R y u A t H;obtain⟨p0,r0,rfl,oW⟩:=y;obtain⟨p1,r1,rfl,X⟩:=u;obtain⟨p2,r2,rfl,dL⟩:=A;obtain⟨p3,r3,rfl,lU⟩:=t;clear oW X dL lU N;have af:=CB E hb.size;clear Q F U E
   go_wp2_with (go_at_call 89;refine(L _ AW).mono ?_;rintro e w2 ⟨T,c2,m,rfl,M,G,ac,aa⟩;have ab:=(show AO w _ from hb.trans ((show AO wr _ from AW).mono hb.size)).trans ac;have dP:=AV M;have ae:=AV G;clear M G aa)
   refine⟨⟨j+1,ms++[m],T,c2,AQ,by go_num,AU,?_,by rw[CO];exact ae.out,ab⟩,by simp[intOf];omega⟩;rw[H.out,CU,CU,aO.out,G3,G3,dP.out]
  ·exact zR
theorem VY (es:List Stil.B9)(m:∀x∈es,∀(g j k f:Value) (w:World),Dj w g x.net.one.args->Gg w j x.net.kids->Ir w k x.coils->E8 w f x.kids->Calls prog 57 #[.agg #[AB x.net.kind,AB x.net.one.op,g,j,k,f]] w λe d=>K0 d w.heap.size (Bo x) e/\AO w d)
  (v:Value) (w:World) (i:E8 w v es) (hl:es.length<=999999):
  Calls prog 56 #[v, .func (.func 57) #[] #[]] w λe d=>∃(a:Option Addr) (c:Nat) (b:List Bz),e=.returned (AE a b.length c)/\b.map Bz.arm=es.map Bo/\Tj d w.heap.size (AE a b.length c) b/\AO w d:=by
 have z:=AV (λW B h t s=>lx es m B v W (i.below h) hl t s);obtain⟨D,F,rfl,A⟩:=i;clear A m;go_enter func56,ntmps56
 go_wp2_with (go_at_call 88;refine(z _ _ AW (by simp[go_sem]) AU).mono ?_;rintro e y ⟨r,o,b,rfl,q,l,E⟩;have C:=AV q;have u:Hid (Tj y _ (AE r b.length o) b):=l;clear q l)
 go_ret;exact⟨r,o,b,rfl,C.out,u.le AU,AW⟩
