import Derived.Test.YtnpfcnolmkanfaaGreatDoorY7g
import Derived.Test.YtnpfcnolmkanfaaGreatDoorGO
import Derived.Test.YtnpfcnolmkanfaaGreatDoorGx
import Derived.Test.YtnpfcnolmkanfaaGreatDoorGy
set_option maxHeartbeats 4000000
set_option maxRecDepth 100000
namespace Go.Proofs.YtnpfcnolmkanfaaGreatDoor
open Tryz
open Stil
open Go.RowKit Go.Sort Go.BigFrame
variable {B base:Nat}{W:World}{u0 u1:Value}
def Ajr (w:World)(base:Nat)(vs:List Value)(lo:Nat)(n:Stil.Net)(e:Ending):Prop:=∃(k op:Int) (b:List Stil.Dev) (d:Option Addr) (f:Nat) (c:Option Addr) (g:Nat) (a:List Aq),e=.returned (.agg #[.int .i64 k, .int .i64 op, .slice d b.length f, .slice c a.length g])/\
 J7 w base ⟨k,op,b, .slice d b.length f, .slice c a.length g,a⟩/\(Aq.mk k op b (.slice d b.length f) (.slice c a.length g) a).net=n/\∀x∈(Aq.mk k op b (.slice d b.length f) (.slice c a.length g) a).vals,x∈vs\/∀q,x.ownBlock=some q->lo<=q
theorem Ak4 (k:Int)(base:Nat)(f:List Aq)(a:Option Addr)(cap:Nat)(w:World)(K:L9 w base (.slice a f.length cap) f)(hl:Stil.sizes (f.map Aq.net)<=999999)(ab:base<=w.heap.size):
  Calls prog 97 #[.int .i64 k, .slice a f.length cap] w λe T=>Ajr T base (Fp f) w.heap.size (E5 k (Bz k (f.map Aq.net))) e/\Below w.heap.size w T:=by
 have L:=hid (λW B h C h2=>Ag9 k B base f a cap W C h2 (K.below h) hl (A6e ab h.size));obtain⟨F,hF⟩:∃F,F=Bz k (f.map Aq.net):=⟨_,rfl⟩
 rw[<-hF] at L ⊢;have lF:=hid (λx hx q s=>(K.lt x (A56 _ hx) q s).2);clear K hl hF;go_enter func97,ntmps97;go_upto_region 2 with(go_at_call 110;refine(L _ _ blA (by simp[go_sem]) yAd).mono ?_;rintro e d ⟨l,o,b,rfl,V,N,H,hsub,hvl⟩;have y:=hid V;have u:=hid N;have A:Hid (∀x∈(Value.slice l b.length o)::Fp b,x.ownBlock≠some (w.heap.size+1)):=yCe;have z:Hid (∀x∈(Value.slice l b.length o)::Fp b,x∈Fp f\/∀q,x.ownBlock=some q->w.heap.size<=q):=(by intro x hx;rcases List.mem_cons.1 hx with rfl | hx;(exact .inr (λq s=>A6e yAd (hvl q s)));(exact .inl (hsub.subset hx)));clear V N hsub hvl)
 obtain⟨j,r⟩:=D7 H;have ag:w.heap.size+1<d.heap.size:=A51 spz H.size;have kd:d.cell? ⟨w.heap.size,0,none⟩=some (.int .i64 k):=by rw[j _ _ yAd];simp[go_sem]
 have Q:d.cell? ⟨w.heap.size+1,0,none⟩=some (.int .i64 0):=by rw[j _ _ spz];simp[go_sem]
 have O:d.cell? ⟨w.heap.size+1,1,none⟩=some (.int .i64 0):=by rw[j _ _ spz];simp[go_sem]
 have U:d.cell? ⟨w.heap.size+1,2,none⟩=some (.slice none 0 0):=by rw[j _ _ spz];simp[go_sem]
 have M:d.cell? ⟨w.heap.size+1,3,none⟩=some (.slice none 0 0):=by rw[j _ _ spz];simp[go_sem]
 have f0:d.frozen? ⟨w.heap.size+1,0,none⟩=false:=by rw[r _ _ spz];simp[go_sem]
 have f1:d.frozen? ⟨w.heap.size+1,1,none⟩=false:=by rw[r _ _ spz];simp[go_sem]
 have f2:d.frozen? ⟨w.heap.size+1,2,none⟩=false:=by rw[r _ _ spz];simp[go_sem]
 have f3:d.frozen? ⟨w.heap.size+1,3,none⟩=false:=by rw[r _ _ spz];simp[go_sem]
 have ae:Below w.heap.size w d:=blA;clear j r H L lF;by_cases C:b.length=1
 ·obtain⟨m,rfl⟩:=List.length_eq_one_iff.1 C
  have i:=u.one 0 spz;simp only[A7a] at i;obtain⟨g,c,S,_,ac,_,t⟩:=Bo u.1 spz;obtain⟨a1,a2,a3,a4⟩:=Nv [m] 0 spz;have R:=t _ _ a1;have Y:=t _ _ a2;have y2:=t _ _ a3;have X:=t _ _ a4;simp only[A7a,A8a,A6b] at R Y y2 X;have G:=(Jb _ _ _).1 i.1;obtain⟨d1,d2,hd⟩:=Aj G.1;obtain⟨d3,d4,aa⟩:=Aj G.2.1;simp only[Value.slice.injEq] at S;obtain⟨rfl,_,rfl⟩:=S;have D:Hid (E5 k F=m.net):=by show _=_;rw[<-y.out];rfl
  have E:=hid (λx hx=>A x (A56 _ (by rw[Kt];exact hx)));have I:=hid (λx hx=>z x (A56 _ (by rw[Kt];exact hx)));clear A y z;obtain⟨P,aK,aG,oz,ou,Z⟩:=m;simp only at hd aa R Y y2 X;subst hd;subst aa;have J:=hid i;clear i G t u;simp only[A62]
  go_wp2
  refine bodyPost_ret (v:=.agg #[.int .i64 P, .int .i64 aK, .slice d1 aG.length d2, .slice d3 Z.length d4]) (by simp[results,results97,go_sem,Q,O,U,M]) rfl ⟨⟨P,aK,aG,d1,d2,d3,d4,Z,rfl,?_,D.symm,I.out⟩,blA⟩;exact J7.setO4 J E.out
 ·have D:Hid (E5 k F=⟨k,⟨0,[]⟩,b.map Aq.net⟩):=by
   show _=_
   rw[<-y.out];unfold E5;rw[dif_neg (by simpa using C)]
  have i:=u.net k 0 [] (World.ownsRow_nil _ _ _ _) (λx _=>Qe x);have J:=hid i;have E:Hid (∀x∈(Aq.mk k 0 [] (.slice none 0 0) (.slice l b.length o) b).vals,x.ownBlock≠some (w.heap.size+1)):=by
   intro x hx;rw[Aq.vals_eq] at hx;rcases List.mem_cons.1 hx with rfl | hx
   ·intro e;cases e
   ·exact A x hx
  have I:Hid (∀x∈(Aq.mk k 0 [] (.slice none 0 0) (.slice l b.length o) b).vals,x∈Fp f\/∀q,x.ownBlock=some q->w.heap.size<=q):=by
   intro x hx;rw[Aq.vals_eq] at hx;rcases List.mem_cons.1 hx with rfl | hx
   ·exact .inr (λq s=>by cases s)
   ·exact z x hx
  clear z;have af:((b.length:Int)==1)=false:=by rw[A64];omega
  have zO:¬((b.length:Int)=1):=omz
  clear i u A y
  go_wp2
  refine bodyPost_ret (v:=.agg #[.int .i64 k, .int .i64 0, .slice none 0 0, .slice l b.length o]) (by simp[results,results97,go_sem,Q,O,U,M]) rfl ⟨⟨k,0,[],none,0,l,o,b,rfl,?_,by rw[Aq.net_eq,D.out],I.out⟩,blA⟩;exact J7.setO4 J E.out
theorem Eg {ob:Obj}{c p:Nat}(h:c<W.heap.size):(W.alloc ob).cell? ⟨c,p,none⟩=W.cell? ⟨c,p,none⟩:=(Aa W ob).cell (p:=⟨c,p,none⟩) h
theorem L9.pair {w:World}{a b:Aq}(h1:MOk w base a)(g:MOk w base b)(l:(a.vals++b.vals).Pairwise Aside)(j:base<=w.heap.size):L9 (w.alloc (.cells #[.int .i64 a.kind, .int .i64 a.op,a.av,a.kv, .int .i64 b.kind, .int .i64 b.op,b.av,b.kv] 43)) base (.slice (some ⟨w.heap.size,0,none⟩) 2 2) [a,b]:=by
 have i:Fp [a,b]=a.vals++b.vals:=by simp[Fp]
 refine⟨?_,λx f=>?_,?_⟩
 ·exact World.ownsRow_lit w #[.int .i64 a.kind, .int .i64 a.op,a.av,a.kv, .int .i64 b.kind, .int .i64 b.op,b.av,b.kv] 2 j yAe rfl
 ·rcases List.mem_cons.1 f with rfl | f
  ·exact h1.below (Aa _ _)
  ·rw[List.mem_singleton.1 f];exact g.below (Aa _ _)
 ·rw[i,A6o]
  refine⟨λy c=>(Ij (n:=w.heap.size) (λk d=>?_) (λk d=>?_)).symm,l⟩
  ·rcases List.mem_append.1 c with c | c
   ·exact(h1.lt a y c k d).2
   ·exact(g.lt b y c k d).2
  ·have e:w.heap.size=k:=by simpa[Value.ownBlock] using d
   omega
theorem zw0 {p:Prop}(h:p:=by
 refine J7.setO4 aU (λx hx e=>?_)
 rcases HW x hx with h | h
 ·have:=lF x h _ e;omega
 ·have:=h _ e;omega):p:=h
theorem zy0 {p:Prop}(h:p:=by
 have hbC:=(Cc hbB _).trans (hb3.mono (by have:=hbB.size;simp;omega))
 clear iK hbB hb1 hb2 hb3
 exact blA):p:=h
theorem Ak3 (i g:Int)(c:List Stil.Dev)(y:Option Addr)(r:Nat)(o:Option Addr)(l:Nat)(a:List Aq)(j f:Int)(d:List Stil.Dev)(u:Option Addr)(s:Nat)(k:Option Addr)(m:Nat)(b:List Aq)(base:Nat)(w:World)
  (h1:MOk w base (Aq.mk i g c (.slice y c.length r) (.slice o a.length l) a)) (M:MOk w base (Aq.mk j f d (.slice u d.length s) (.slice k b.length m) b)) (hp:((Aq.mk i g c (.slice y c.length r) (.slice o a.length l) a).vals++(Aq.mk j f d (.slice u d.length s) (.slice k b.length m) b).vals).Pairwise Aside) (ah:base<=w.heap.size) (hs:Stil.sizes [(Aq.mk i g c (.slice y c.length r) (.slice o a.length l) a).net,(Aq.mk j f d (.slice u d.length s) (.slice k b.length m) b).net]<=999999) (ai:Dt (Aq.mk i g c (.slice y c.length r) (.slice o a.length l) a).net) (aa:Dt (Aq.mk j f d (.slice u d.length s) (.slice k b.length m) b).net):
  Calls prog 98 #[.agg #[.int .i64 i, .int .i64 g, .slice y c.length r, .slice o a.length l], .agg #[.int .i64 j, .int .i64 f, .slice u d.length s, .slice k b.length m]] w λe G=>Ajr G base ((Aq.mk i g c (.slice y c.length r) (.slice o a.length l) a).vals++(Aq.mk j f d (.slice u d.length s) (.slice k b.length m) b).vals) w.heap.size (Ko (Aq.mk i g c (.slice y c.length r) (.slice o a.length l) a).net (Aq.mk j f d (.slice u d.length s) (.slice k b.length m) b).net) e/\Below w.heap.size w G:=by
 obtain⟨f1,f2⟩:=MOk.from _ h1;obtain⟨f3,f4⟩:=MOk.from _ M;have Y:Hid (∀W,Below w.heap.size w W->Calls prog 69 #[.agg #[.int .i64 i, .int .i64 g, .slice y c.length r, .slice o a.length l]] W λe G=>e=.returned (.bool (Ar (Aq.mk i g c (.slice y c.length r) (.slice o a.length l) a).net))/\Below W.heap.size W G):=by
  intro W h;have:=Ti (Aq.mk i g c (.slice y c.length r) (.slice o a.length l) a).net _ _ W (f1.at.below h) (f2.at.below h) ai
  have e:=Aq.net_eq (Aq.mk i g c (.slice y c.length r) (.slice o a.length l) a);have nY:(Aq.mk i g c (.slice y c.length r) (.slice o a.length l) a).net.kind=i:=by rw[e]
  have nX:(Aq.mk i g c (.slice y c.length r) (.slice o a.length l) a).net.one.op=g:=by rw[e]
  rw[nY,nX] at this;exact this
 have dO:Hid (∀W,Below w.heap.size w W->Calls prog 69 #[.agg #[.int .i64 j, .int .i64 f, .slice u d.length s, .slice k b.length m]] W λe G=>e=.returned (.bool (Ar (Aq.mk j f d (.slice u d.length s) (.slice k b.length m) b).net))/\Below W.heap.size W G):=by
  intro W h;have:=Ti (Aq.mk j f d (.slice u d.length s) (.slice k b.length m) b).net _ _ W (f3.at.below h) (f4.at.below h) aa
  have e:=Aq.net_eq (Aq.mk j f d (.slice u d.length s) (.slice k b.length m) b);have nY:(Aq.mk j f d (.slice u d.length s) (.slice k b.length m) b).net.kind=j:=by rw[e]
  have nX:(Aq.mk j f d (.slice u d.length s) (.slice k b.length m) b).net.one.op=f:=by rw[e]
  rw[nY,nX] at this;exact this
 have ac:=List.pairwise_append.1 hp;have vM:Hid (∀W,Below w.heap.size w W->J7 W base (Aq.mk i g c (.slice y c.length r) (.slice o a.length l) a)):=λW h=>⟨h1.below h,ac.1⟩
 have vK:Hid (∀W,Below w.heap.size w W->J7 W base (Aq.mk j f d (.slice u d.length s) (.slice k b.length m) b)):=λW h=>⟨M.below h,ac.2.1⟩
 have lF:Hid (∀x∈(Aq.mk i g c (.slice y c.length r) (.slice o a.length l) a).vals++(Aq.mk j f d (.slice u d.length s) (.slice k b.length m) b).vals,∀q,x.ownBlock=some q->q<w.heap.size):=by
  intro x hx q J;rcases List.mem_append.1 hx with hx | hx
  ·exact(h1.lt _ x hx q J).2
  ·exact(M.lt _ x hx q J).2
 have K:Hid (∀W,Below w.heap.size w W->Calls prog 97 #[.int .i64 2, .slice (some ⟨W.heap.size,0,none⟩) 2 2] (W.alloc (.cells #[.int .i64 i, .int .i64 g, .slice y c.length r, .slice o a.length l, .int .i64 j, .int .i64 f, .slice u d.length s, .slice k b.length m] 43)) λe G=>Ajr G base ((Aq.mk i g c (.slice y c.length r) (.slice o a.length l) a).vals++(Aq.mk j f d (.slice u d.length s) (.slice k b.length m) b).vals) (W.alloc (.cells #[.int .i64 i, .int .i64 g, .slice y c.length r, .slice o a.length l, .int .i64 j, .int .i64 f, .slice u d.length s, .slice k b.length m] 43)).heap.size (E5 2 (Bz 2 [(Aq.mk i g c (.slice y c.length r) (.slice o a.length l) a).net,(Aq.mk j f d (.slice u d.length s) (.slice k b.length m) b).net])) e/\Below (W.alloc (.cells #[.int .i64 i, .int .i64 g, .slice y c.length r, .slice o a.length l, .int .i64 j, .int .i64 f, .slice u d.length s, .slice k b.length m] 43)).heap.size (W.alloc (.cells #[.int .i64 i, .int .i64 g, .slice y c.length r, .slice o a.length l, .int .i64 j, .int .i64 f, .slice u d.length s, .slice k b.length m] 43)) G):=by
  intro W h;have hr:=L9.pair (h1.below h) (M.below h) hp (A6e ah h.size);have:=Ak4 2 base [(Aq.mk i g c (.slice y c.length r) (.slice o a.length l) a),(Aq.mk j f d (.slice u d.length s) (.slice k b.length m) b)] (some ⟨W.heap.size,0,none⟩) 2 _ hr hs (A6e ah (A6e h.size spz))
  have hv:Fp [(Aq.mk i g c (.slice y c.length r) (.slice o a.length l) a),(Aq.mk j f d (.slice u d.length s) (.slice k b.length m) b)]=(Aq.mk i g c (.slice y c.length r) (.slice o a.length l) a).vals++(Aq.mk j f d (.slice u d.length s) (.slice k b.length m) b).vals:=by simp[Fp]
  rw[hv] at this;exact this
 obtain⟨S,hS⟩:∃S,S=Ko (Aq.mk i g c (.slice y c.length r) (.slice o a.length l) a).net (Aq.mk j f d (.slice u d.length s) (.slice k b.length m) b).net:=⟨_,rfl⟩
 have H:Hid (S=if Ar (Aq.mk i g c (.slice y c.length r) (.slice o a.length l) a).net then(Aq.mk j f d (.slice u d.length s) (.slice k b.length m) b).net else if Ar (Aq.mk j f d (.slice u d.length s) (.slice k b.length m) b).net then(Aq.mk i g c (.slice y c.length r) (.slice o a.length l) a).net else E5 2 (Bz 2 [(Aq.mk i g c (.slice y c.length r) (.slice o a.length l) a).net,(Aq.mk j f d (.slice u d.length s) (.slice k b.length m) b).net])):=hS;rw[<-hS];obtain⟨T,an⟩:∃t,t=Ar (Aq.mk i g c (.slice y c.length r) (.slice o a.length l) a).net:=⟨_,rfl⟩
 obtain⟨t2,al⟩:∃t,t=Ar (Aq.mk j f d (.slice u d.length s) (.slice k b.length m) b).net:=⟨_,rfl⟩
 rw[<-an] at Y H;rw[<-al] at dO H;obtain⟨L,uK⟩:∃L,L=(Aq.mk i g c (.slice y c.length r) (.slice o a.length l) a).vals++(Aq.mk j f d (.slice u d.length s) (.slice k b.length m) b).vals:=⟨_,rfl⟩
 have fC:=hid uK;rw[<-uK] at lF K ⊢;obtain⟨X1,af⟩:∃ag,ag=(Aq.mk i g c (.slice y c.length r) (.slice o a.length l) a).net:=⟨_,rfl⟩
 obtain⟨X2,ae⟩:∃ag,ag=(Aq.mk j f d (.slice u d.length s) (.slice k b.length m) b).net:=⟨_,rfl⟩
 have yw:=hid af;have yu:=hid ae;rw[<-af,<-ae] at K H;clear hS an al uK af ae f1 f2 f3 f4 h1 M hp ac hs ai aa;cases T
 ·cases t2
  ·have I:S=E5 2 (Bz 2 [X1,X2]):=by rw[H.out];rfl
   rw[<-I] at K;clear H I vM vK;go_enter func98,ntmps98;go_upto_region 3 with(go_at_call 69;refine(Y _ blA).mono ?_;rintro e z ⟨rfl,hb1⟩;obtain⟨A,hf⟩:=D7 hb1;have V:w.heap.size<z.heap.size:=A51 yAd hb1.size;have ab:w.heap.size+1<z.heap.size:=A51 spz hb1.size;have C:w.heap.size+1+1<z.heap.size:=A51 spz hb1.size;have iK:Below w.heap.size w z:=blA)
   go_upto_region 5 with(go_at_call 69;refine(dO _ blA).mono ?_;rintro e E ⟨rfl,hb2⟩;obtain⟨F,aa⟩:=D7 hb2;have ar:=A51 V hb2.size;have ap:=A51 ab hb2.size;have D:=A51 C hb2.size;have hbB:Below w.heap.size w E:=yDa)
   go_wp2_with (go_at_call 97;refine(K E hbB).mono ?_;rintro e w3 ⟨⟨mk,aK,aG,s0,t0,s1,T,Z,rfl,aj,ak,ao⟩,hb3⟩;obtain⟨X,av⟩:=D7 hb3;have au:=A51 (A51 D spz) hb3.size;have aU:=hid aj;have N:=hid ak;have HW:Hid (∀x∈(Aq.mk mk aK aG (.slice s0 aG.length t0) (.slice s1 Z.length T) Z).vals,x∈L\/∀q,x.ownBlock=some q->E.heap.size<=q):=(λx hx=>(ao x hx).imp id (λh q J=>A6e spz (h q J)));clear aj ak ao)
   have U:w3.cell? ⟨w.heap.size+1+1,0,none⟩=some (.int .i64 0):=by rw[X _ _ (A51 D spz),Eg D,F _ _ C,A _ _ spz];simp[go_sem]
   have R:w3.cell? ⟨w.heap.size+1+1,1,none⟩=some (.int .i64 0):=by rw[X _ _ (A51 D spz),Eg D,F _ _ C,A _ _ spz];simp[go_sem]
   have O:w3.cell? ⟨w.heap.size+1+1,2,none⟩=some (.slice none 0 0):=by rw[X _ _ (A51 D spz),Eg D,F _ _ C,A _ _ spz];simp[go_sem]
   have Q:w3.cell? ⟨w.heap.size+1+1,3,none⟩=some (.slice none 0 0):=by rw[X _ _ (A51 D spz),Eg D,F _ _ C,A _ _ spz];simp[go_sem]
   refine bodyPost_ret (v:=.agg #[.int .i64 mk, .int .i64 aK, .slice s0 aG.length t0, .slice s1 Z.length T]) (by simp[results,results98,go_sem,U,R,O,Q]) rfl ⟨⟨mk,aK,aG,s0,t0,s1,T,Z,rfl,?_,N.out,λx hx=>(HW x hx).imp id (λh q J=>by have:=h q J;omega)⟩,?_⟩
   ·exact zw0
   ·exact zy0
  ·have I:S=X1:=by rw[H.out];rfl
   have N:Hid ((Aq.mk i g c (.slice y c.length r) (.slice o a.length l) a).net=S):=by show _=_;rw[I,yw.out]
   have P:Hid (∀x∈(Aq.mk i g c (.slice y c.length r) (.slice o a.length l) a).vals,x∈L):=λx hx=>by rw[fC.out];exact A6d _ hx
   clear H I K vK;go_enter func98,ntmps98;go_upto_region 3 with(go_at_call 69;refine(Y _ blA).mono ?_;rintro e z ⟨rfl,hb1⟩;obtain⟨A,hf⟩:=D7 hb1;have V:w.heap.size<z.heap.size:=A51 yAd hb1.size;have ab:w.heap.size+1<z.heap.size:=A51 spz hb1.size;have C:w.heap.size+1+1<z.heap.size:=A51 spz hb1.size;have iK:Below w.heap.size w z:=blA)
   go_wp2_with (go_at_call 69;refine(dO _ blA).mono ?_;rintro e E ⟨rfl,hb2⟩;obtain⟨F,aa⟩:=D7 hb2;have ar:=A51 V hb2.size;have ap:=A51 ab hb2.size;have D:=A51 C hb2.size;have hbB:Below w.heap.size w E:=yDa)
   have U:E.cell? ⟨w.heap.size+1+1,0,none⟩=some (.int .i64 0):=by rw[F _ _ C,A _ _ spz];simp[go_sem]
   have R:E.cell? ⟨w.heap.size+1+1,1,none⟩=some (.int .i64 0):=by rw[F _ _ C,A _ _ spz];simp[go_sem]
   have O:E.cell? ⟨w.heap.size+1+1,2,none⟩=some (.slice none 0 0):=by rw[F _ _ C,A _ _ spz];simp[go_sem]
   have Q:E.cell? ⟨w.heap.size+1+1,3,none⟩=some (.slice none 0 0):=by rw[F _ _ C,A _ _ spz];simp[go_sem]
   refine bodyPost_ret (v:=.agg #[.int .i64 i, .int .i64 g, .slice y c.length r, .slice o a.length l]) (by simp[results,results98,go_sem,U,R,O,Q]) rfl ⟨⟨i,g,c,y,r,o,l,a,rfl,?_,N.out,λx hx=>.inl (P x hx)⟩,?_⟩
   ·exact J7.setO4 (vM E hbB) (λx hx e=>by have:=lF x (P x hx) _ e;omega)
   ·clear iK hb1 hb2
    exact blA
 ·have I:S=X2:=by rw[H.out];rfl
  have N:Hid ((Aq.mk j f d (.slice u d.length s) (.slice k b.length m) b).net=S):=by show _=_;rw[I,yu.out]
  have P:Hid (∀x∈(Aq.mk j f d (.slice u d.length s) (.slice k b.length m) b).vals,x∈L):=λx hx=>by rw[fC.out];exact A6a _ hx
  clear H I K vM dO;go_enter func98,ntmps98
  go_wp2_with (go_at_call 69;refine(Y _ blA).mono ?_;rintro e z ⟨rfl,hb1⟩;obtain⟨A,hf⟩:=D7 hb1;have V:w.heap.size<z.heap.size:=A51 yAd hb1.size;have ab:w.heap.size+1<z.heap.size:=A51 spz hb1.size;have C:w.heap.size+1+1<z.heap.size:=A51 spz hb1.size;have iK:Below w.heap.size w z:=blA)
  have U:z.cell? ⟨w.heap.size+1+1,0,none⟩=some (.int .i64 0):=by rw[A _ _ spz];simp[go_sem]
  have R:z.cell? ⟨w.heap.size+1+1,1,none⟩=some (.int .i64 0):=by rw[A _ _ spz];simp[go_sem]
  have O:z.cell? ⟨w.heap.size+1+1,2,none⟩=some (.slice none 0 0):=by rw[A _ _ spz];simp[go_sem]
  have Q:z.cell? ⟨w.heap.size+1+1,3,none⟩=some (.slice none 0 0):=by rw[A _ _ spz];simp[go_sem]
  refine bodyPost_ret (v:=.agg #[.int .i64 j, .int .i64 f, .slice u d.length s, .slice k b.length m]) (by simp[results,results98,go_sem,U,R,O,Q]) rfl ⟨⟨j,f,d,u,s,k,m,b,rfl,?_,N.out,λx hx=>.inl (P x hx)⟩,?_⟩
  ·exact J7.setO4 (vK z iK) (λx hx e=>by have:=lF x (P x hx) _ e;omega)
  ·clear hb1
   exact blA
theorem Ayc (a:B=W.heap.size){t:TypeId}:∀j u,[u0,u1][j]?=some u->(W.alloc (.cells #[u0,u1] t)).cell? ((⟨B,0,none⟩:Addr).add j)=some u:=by
 subst a;intro j u h;rw[Addr.add_lit]
 match j,h with
 | 0,h=>simp at h;subst h;simp[go_sem]
 | 1,h=>simp at h;subst h;simp[go_sem]
 | j+2,h=>simp at h
theorem Ud.apart {w w1:World}{v:Value}{es ks:List D8}{b1:Nat}(h:Ud w base v es)(i:∀m∈ks,EOk w1 b1 m)(j:w.heap.size<=b1)(f:(Gg ks).Pairwise Aside):(v::(Gg es++Gg ks)).Pairwise Aside:=by
 have e:=h.lt;have c:∀y∈Gg ks,∀k,y.ownBlock=some k->w.heap.size<=k:=by
  intro y c k b;obtain⟨m,l,rfl⟩:=Oi.1 c;exact A6e j ((i m l).lt k b).1
 have d:=h.2.2;rw[A6o] at d ⊢;refine⟨λy a=>?_,List.pairwise_append.2 ⟨d.2,f,λx g y a=>Ij (λk b=>(e x (A56 _ g) k b).2) (c y a)⟩⟩;rcases List.mem_append.1 a with a | a
 ·exact d.1 y a
 ·exact Ij (λk b=>(e v spz k b).2) (c y a)
theorem A0l (x:Stil.Elem)(B base lo:Nat)(f:Option Addr)(g:Nat)(b:List D8)(s:Value)(w:World)(C:∀W,Below w.heap.size w W->Calls prog 68 #[.agg #[.int .i64 x.op,s]] W λe d=>∃u,e=.returned (.agg #[.int .i64 x.op,u])/\d.ownsRow W.heap.size 92 3 u x.args.length (Be x.args)/\Below W.heap.size W d)
  (F:Dh w s x.args) (T:w.cell? ⟨B,0,none⟩=some (.func (.func 68) #[] #[])) (X:B<w.heap.size) (y:Ud w base (.slice f b.length g) b) (hl:b.length+1<=1000000) (H:base<=w.heap.size) (P:lo<=w.heap.size) (A:∀k,(Value.slice f b.length g).ownBlock=some k->lo<=k):
  Calls prog 94 #[.slice f b.length g, .agg #[.int .i64 x.op,s], .pointer (some ⟨B,0,none⟩)] w λe d=>∃(a:Option Addr) (c:Nat) (m:D8),e=.returned (.slice a (b.length+1) c)/\m.elem=x/\Ud d base (.slice a (b.length+1) c) (b++[m])/\Below lo w d/\∀k,(Value.slice a (b.length+1) c).ownBlock=some k->lo<=k:=by
 have N:=hid C;have E:=hid y;have G:=hid A;obtain⟨S,V,rfl,M⟩:=F;clear M;clear C y A;go_enter func94,ntmps94
 go_wp2_with (first | (go_at_call 68;refine(N _ blA).mono ?_;rintro e w1 ⟨u,rfl,q,U⟩;obtain⟨j,i,hu⟩:=Aj q;subst hu;have o:Below w.heap.size w w1:=blA;have R:=o.size;have v:Hid (EOk w1 w.heap.size (D8.mk x.op x.args (.slice j x.args.length i))/\True):=⟨Joins.ownsRow_le q spz,trivial⟩;have L:Hid ((D8.mk x.op x.args (.slice j x.args.length i)).elem=x):=rfl;clear q) | (at_builtin;refine Abf rfl _ _ rfl base lo f g b [(D8.mk x.op x.args (.slice j x.args.length i))] _ 1 rfl rfl ((E.below o).below (Aa _ _)) (λ_=>⟨_,rfl,by exact Ayc spz⟩) (λm t=>by rw[List.mem_singleton.1 t];exact(Joins.ownsRow_le (ownsRow_below v.1 (Aa _ _)) H)) (E.apart (w1:=w1) (b1:=w.heap.size) (λm t=>by rw[List.mem_singleton.1 t];exact v.1) (A57 _) (A7t _ _)) (by simp only[A62];exact hl) yBd yBd G.out ?_;intro r l K z O D;have J:Hid (Ud K base (.slice r (b.length+1) l) (b++[(D8.mk x.op x.args (.slice j x.args.length i))])):=z;have I:Hid (∀k,(Value.slice r (b.length+1) l).ownBlock=some k->lo<=k):=D;clear z D;have Q:=(((Cc o _).mono P)).trans O))
 go_ret;exact⟨r,l,_,rfl,L.out,J.out,Q,I.out⟩
theorem A26 (es:List Stil.Elem)(C:∀x∈es,∀(g:Value) (w:World),Dh w g x.args->Calls prog 68 #[.agg #[.int .i64 x.op,g]] w λe f=>∃u,e=.returned (.agg #[.int .i64 x.op,u])/\f.ownsRow w.heap.size 92 3 u x.args.length (Be x.args)/\Below w.heap.size w f)
  (B:Nat) (v:Value) (w:World) (O:Hz w v es) (hl:es.length<=999999) (D:w.cell? ⟨B,0,none⟩=some (.func (.func 68) #[] #[])) (J:B<w.heap.size):
  Calls prog 93 #[v, .slice none 0 0, .func (.func 94) #[] #[.pointer (some ⟨B,0,none⟩)]] w λe f=>∃(a:Option Addr) (c:Nat) (ms:List D8),e=.returned (.slice a ms.length c)/\ms.map D8.elem=es/\Ud f w.heap.size (.slice a ms.length c) ms/\Below w.heap.size w f:=by
 obtain⟨a,cap,rfl,E⟩:=O;have K:=hid E;have V:=hid C;have Q:=hid D;clear E C D;go_enter func93,ntmps93
 go_wp2
 go_loopw [1,11] (λd i wr=>∃(j:Nat) (ms:List D8) (ra:Option Addr) (rc:Nat),j<=es.length/\i=.int .i64 j/\d=.slice ra ms.length rc/\ms.map D8.elem=(es.take j)/\Ud wr w.heap.size (.slice ra ms.length rc) ms/\Below w.heap.size w wr) (λ_ i _=>es.length - (intOf i).toNat)
 case atStart=>exact⟨0,[],none,0,omz,rfl,rfl,rfl,Ud.nil _ _,Below.refl _ _⟩
 case round=>
  obtain⟨j,ms,ra,rc,hj,rfl,rfl,hmn,z,hb⟩:=hrel;have aQ:=hid hmn;have aW:=hid z;clear hmn z;by_cases s:j<es.length
  ·have X:ms.length=j:=by
    have S:=congrArg List.length aQ.out;simp only[A6i,A74] at S;omega
   obtain⟨b,o,rfl,t,G⟩:=K j s;obtain⟨T,g,x1,l⟩:=G.below hb t;have F:=hid (A6l s);have I:Hid (∀W,Below wr.heap.size wr W->Calls prog 94 #[.slice ra ms.length rc, .agg #[.int .i64 es[j].op,g], .pointer (some ⟨B,0,none⟩)] W λe f=>∃(a:Option Addr) (c:Nat) (m:D8),e=.returned (.slice a (ms.length+1) c)/\m.elem=es[j]/\Ud f w.heap.size (.slice a (ms.length+1) c) (ms++[m])/\Below w.heap.size W f/\∀k,(Value.slice a (ms.length+1) c).ownBlock=some k->w.heap.size<=k):=by
    intro W q;have r:=hb.trans (q.mono hb.size);exact A0l es[j] B w.heap.size w.heap.size ra rc ms g W (λaa M=>V es[j] (A59 s) g aa ((l.below q).below M)) (l.below q) ((r.cell (p:=⟨B,0,none⟩) J).trans Q.out) (A51 J r.size) (aW.below q) omz r.size r.size (λk N=>(aW.1.lt k N).1)
   obtain⟨x,y⟩:∃x,x=es[j]:=⟨_,rfl⟩
   rw[<-y] at I T l F;obtain⟨p0,r0,rfl,R⟩:=l;clear R;have ae:=A51 t hb.size;clear y G X t
   go_wp2_with (go_at_call 94;refine(I _ blA).mono ?_;rintro e w2 ⟨Y,L,m,rfl,H,A,ab,P⟩;have ac:=(show Below w.heap.size w _ from hb.trans ((show Below wr.heap.size wr _ from blA).mono hb.size)).trans ab;have U:=hid H;have Z:=hid A;clear H A P)
   refine⟨⟨j+1,ms++[m],Y,L,omz,by go_num,spz,?_,by rw[A52];exact Z.out,ac⟩,by simp[intOf];omega⟩;rw[F.out,A6g,aQ.out,A7x,U.out]
  ·exact zR
theorem An3 (es:List Stil.Elem)(k:∀x∈es,∀(m:Value) (w:World),Dh w m x.args->Calls prog 68 #[.agg #[.int .i64 x.op,m]] w λe d=>∃u,e=.returned (.agg #[.int .i64 x.op,u])/\d.ownsRow w.heap.size 92 3 u x.args.length (Be x.args)/\Below w.heap.size w d)
  (v:Value) (w:World) (i:Hz w v es) (hl:es.length<=999999):
  Calls prog 67 #[v, .func (.func 68) #[] #[]] w λe d=>∃(a:Option Addr) (c:Nat) (b:List D8),e=.returned (.slice a b.length c)/\b.map D8.elem=es/\Ud d w.heap.size (.slice a b.length c) b/\Below w.heap.size w d:=by
 have o:=hid (λW B h s z=>A26 es k B v W (i.below h) hl s z);obtain⟨A,D,rfl,r⟩:=i;clear r k;go_enter func67,ntmps67
 go_wp2_with (go_at_call 93;refine(o _ _ blA (by simp[go_sem]) spz).mono ?_;rintro e t ⟨j,l,b,rfl,f,g,C⟩;have q:=hid f;have y:Hid (Ud t _ (.slice j b.length l) b):=g;clear f g)
 go_ret;exact⟨j,l,b,rfl,q.out,y.le spz,blA⟩
theorem A3h (e:B=W.heap.size){b a c d:Value}{t:TypeId}:∀j u,[u0,u1,b,a,c,d][j]?=some u->(W.alloc (.cells #[u0,u1,b,a,c,d] t)).cell? ((⟨B,0,none⟩:Addr).add j)=some u:=by
 subst e;intro j u h;rw[Addr.add_lit]
 match j,h with
 | 0,h=>simp at h;subst h;simp[go_sem]
 | 1,h=>simp at h;subst h;simp[go_sem]
 | 2,h=>simp at h;subst h;simp[go_sem]
 | 3,h=>simp at h;subst h;simp[go_sem]
 | 4,h=>simp at h;subst h;simp[go_sem]
 | 5,h=>simp at h;subst h;simp[go_sem]
 | j+6,h=>simp at h
theorem A0m (x:Stil.Arm)(B base lo:Nat)(j:Option Addr)(l:Nat)(b:List Bj)(I s t A:Value)(w:World)(L:∀W,Below w.heap.size w W->Calls prog 39 #[.agg #[.int .i64 x.net.kind, .int .i64 x.net.one.op,I,s,t,A]] W λe i=>Amg i W.heap.size (Dc x) e/\Below W.heap.size W i)
  (S:Dh w I x.net.one.args) (ae:E8 w s x.net.kids) (X:Hz w t x.coils) (aa:Ea w A x.kids) (ag:w.cell? ⟨B,0,none⟩=some (.func (.func 39) #[] #[])) (hB:B<w.heap.size) (N:Qw w base (.slice j b.length l) b) (hl:b.length+1<=1000000) (T:base<=w.heap.size) (ac:lo<=w.heap.size) (P:∀k,(Value.slice j b.length l).ownBlock=some k->lo<=k):
  Calls prog 66 #[.slice j b.length l, .agg #[.int .i64 x.net.kind, .int .i64 x.net.one.op,I,s,t,A], .pointer (some ⟨B,0,none⟩)] w λe i=>∃(a:Option Addr) (c:Nat) (m:Bj),e=.returned (.slice a (b.length+1) c)/\m.arm=Dc x/\Qw i base (.slice a (b.length+1) c) (b++[m])/\Below lo w i/\∀k,(Value.slice a (b.length+1) c).ownBlock=some k->lo<=k:=by
 have V:=hid L;have Q:=hid N;have Z:=hid P;obtain⟨p0,r0,rfl,Y⟩:=S;obtain⟨p1,r1,rfl,U⟩:=ae;obtain⟨p2,r2,rfl,dK⟩:=X;obtain⟨p3,r3,rfl,R⟩:=aa;clear Y U dK R;clear L N P;go_enter func66,ntmps66
 go_wp2_with (first | (go_at_call 39;refine(V _ blA).mono ?_;rintro e w1 ⟨⟨k,op,f,H,u,ns,G,D,g,C,E,d,F,q,rfl,K,J⟩,ah⟩;have z:Below w.heap.size w w1:=blA;have ai:=z.size;have y:Hid (J8 w1 w.heap.size (Bj.mk ⟨k,op,f, .slice H f.length u, .slice G ns.length D,ns⟩ (.slice C g.length E) g (.slice F d.length q) d)):=K.le spz;have aQ:=hid J;clear K J) | (at_builtin;refine Vx rfl _ _ rfl base lo j l b [(Bj.mk ⟨k,op,f, .slice H f.length u, .slice G ns.length D,ns⟩ (.slice C g.length E) g (.slice F d.length q) d)] _ 1 rfl rfl ((Q.below z).below (Aa _ _)) (λ_=>⟨_,rfl,by exact A3h spz⟩) (λm v=>by rw[List.mem_singleton.1 v];exact((y.1.le T).below (Aa _ _))) (Q.apart (w1:=w1) (b1:=w.heap.size) (λm v=>by rw[List.mem_singleton.1 v];exact y.1) (A57 _) (by rw[Qh];exact y.2)) (by simp only[A62];exact hl) yBd yBd Z.out ?_;intro r o w6 O ab M;have gX:Hid (Qw w6 base (.slice r (b.length+1) o) (b++[(Bj.mk ⟨k,op,f, .slice H f.length u, .slice G ns.length D,ns⟩ (.slice C g.length E) g (.slice F d.length q) d)])):=O;have rD:Hid (∀k,(Value.slice r (b.length+1) o).ownBlock=some k->lo<=k):=M;clear O M;have af:=(((Cc z _).mono ac)).trans ab))
 go_ret;exact⟨r,o,_,rfl,aQ.out,gX.out,af,rD.out⟩
theorem A27 (es:List Stil.Arm)(H:∀x∈es,∀(s l q r:Value) (w:World),Dh w s x.net.one.args->E8 w l x.net.kids->Hz w q x.coils->Ea w r x.kids->Calls prog 39 #[.agg #[.int .i64 x.net.kind, .int .i64 x.net.one.op,s,l,q,r]] w λe g=>Amg g w.heap.size (Dc x) e/\Below w.heap.size w g)
  (B:Nat) (v:Value) (w:World) (ab:Ea w v es) (hl:es.length<=999999) (I:w.cell? ⟨B,0,none⟩=some (.func (.func 39) #[] #[])) (J:B<w.heap.size):
  Calls prog 65 #[v, .slice none 0 0, .func (.func 66) #[] #[.pointer (some ⟨B,0,none⟩)]] w λe g=>∃(a:Option Addr) (c:Nat) (ms:List Bj),e=.returned (.slice a ms.length c)/\ms.map Bj.arm=es.map Dc/\Qw g w.heap.size (.slice a ms.length c) ms/\Below w.heap.size w g:=by
 obtain⟨a,cap,rfl,L⟩:=ab;have R:=hid L;have IH:=hid H;have dA:=hid I;clear L H I;go_enter func65,ntmps65
 go_wp2
 go_loopw [1,11] (λd i wr=>∃(j:Nat) (ms:List Bj) (ra:Option Addr) (rc:Nat),j<=es.length/\i=.int .i64 j/\d=.slice ra ms.length rc/\ms.map Bj.arm=(es.take j).map Dc/\Qw wr w.heap.size (.slice ra ms.length rc) ms/\Below w.heap.size w wr) (λ_ i _=>es.length - (intOf i).toNat)
 case atStart=>exact⟨0,[],none,0,omz,rfl,rfl,rfl,Qw.nil _ _,Below.refl _ _⟩
 case round=>
  obtain⟨j,ms,ra,rc,hj,rfl,rfl,hmn,F,hb⟩:=hrel;have aQ:=hid hmn;have aW:=hid F;clear hmn F;by_cases D:j<es.length
  ·have ac:ms.length=j:=by
    have h1:=congrArg List.length aQ.out;simp only[A6i,A74] at h1;omega
   obtain⟨b,o,rfl,E,M⟩:=R j D;obtain⟨N,q,r,x4,x5,y,C⟩:=(Uz.below hb _ _ _ M E).open;obtain⟨V,x1,s,l,x2,x3,t,A⟩:=N.open;have O:=hid (A6l D);have P:Hid (∀W,Below wr.heap.size wr W->Calls prog 66 #[.slice ra ms.length rc, .agg #[.int .i64 es[j].net.kind, .int .i64 es[j].net.one.op,s,l,q,r], .pointer (some ⟨B,0,none⟩)] W λe g=>∃(a:Option Addr) (c:Nat) (m:Bj),e=.returned (.slice a (ms.length+1) c)/\m.arm=Dc es[j]/\Qw g w.heap.size (.slice a (ms.length+1) c) (ms++[m])/\Below w.heap.size W g/\∀k,(Value.slice a (ms.length+1) c).ownBlock=some k->w.heap.size<=k):=by
    intro W f;have u:=hb.trans (f.mono hb.size);exact A0m es[j] B w.heap.size w.heap.size ra rc ms s l q r W (λaf z=>IH es[j] (A59 D) s l q r af ((t.below f).below z) ((A.below f).below z) ((y.below f).below z) ((C.below f).below z)) (t.below f) (A.below f) (y.below f) (C.below f) ((u.cell (p:=⟨B,0,none⟩) J).trans dA.out) (A51 J u.size) (aW.below f) omz u.size u.size (λk hk=>(aW.1.lt k hk).1)
   obtain⟨x,K⟩:∃x,x=es[j]:=⟨_,rfl⟩
   rw[<-K] at P V x1 t A y C O;obtain⟨p0,r0,rfl,Y⟩:=t;obtain⟨p1,r1,rfl,U⟩:=A;obtain⟨p2,r2,rfl,Z⟩:=y;obtain⟨p3,r3,rfl,S⟩:=C;clear Y U Z S N;have ag:=A51 E hb.size;clear K M ac E
   go_wp2_with (go_at_call 66;refine(P _ blA).mono ?_;rintro e w2 ⟨a2,c2,m,rfl,Q,G,X,T⟩;have ae:=(show Below w.heap.size w _ from hb.trans ((show Below wr.heap.size wr _ from blA).mono hb.size)).trans X;have dO:=hid Q;have aa:=hid G;clear Q G T)
   refine⟨⟨j+1,ms++[m],a2,c2,omz,by go_num,spz,?_,by rw[A52];exact aa.out,ae⟩,by simp[intOf];omega⟩;rw[O.out,A6g,A6g,aQ.out,A7x,A7x,dO.out]
  ·exact zR
theorem Aem (es:List Stil.Arm)(l:∀x∈es,∀(r o q g:Value) (w:World),Dh w r x.net.one.args->E8 w o x.net.kids->Hz w q x.coils->Ea w g x.kids->Calls prog 39 #[.agg #[.int .i64 x.net.kind, .int .i64 x.net.one.op,r,o,q,g]] w λe d=>Amg d w.heap.size (Dc x) e/\Below w.heap.size w d)
  (v:Value) (w:World) (j:Ea w v es) (hl:es.length<=999999):
  Calls prog 38 #[v, .func (.func 39) #[] #[]] w λe d=>∃(a:Option Addr) (c:Nat) (b:List Bj),e=.returned (.slice a b.length c)/\b.map Bj.arm=es.map Dc/\Qw d w.heap.size (.slice a b.length c) b/\Below w.heap.size w d:=by
 have s:=hid (λW B h y C=>A27 es l B v W (j.below h) hl y C);obtain⟨D,F,rfl,u⟩:=j;clear u l;go_enter func38,ntmps38
 go_wp2_with (go_at_call 65;refine(s _ _ blA (by simp[go_sem]) spz).mono ?_;rintro e z ⟨k,m,b,rfl,f,i,E⟩;have t:=hid f;have A:Hid (Qw z _ (.slice k b.length m) b):=i;clear f i)
 go_ret;exact⟨k,m,b,rfl,t.out,A.le spz,blA⟩
end Go.Proofs.YtnpfcnolmkanfaaGreatDoor
