import Derived.Test.YtobbpffcggchmaaGreatDoorY7g
import Derived.Test.YtobbpffcggchmaaGreatDoorGO
import Derived.Test.YtobbpffcggchmaaGreatDoorGp
import Derived.Test.YtobbpffcggchmaaGreatDoorGr
set_option maxHeartbeats 4000000
set_option maxRecDepth 100000
namespace Go.Proofs.YtobbpffcggchmaaGreatDoor
open Tryz
open Stil
open Go.RowKit Go.Sort Go.BigFrame
variable {B base:Nat}{W:World}{u0 u1:Value}
def Ap4 (w:World)(base:Nat)(vs:List Value)(lo:Nat)(n:Stil.Net)(e:Ending):Prop:=∃(k op:Int) (a:List Stil.Dev) (d:Option Addr) (c:Nat) (g:Option Addr) (f:Nat) (b:List Ah),e=.returned (.agg #[.int .i64 k, .int .i64 op, .slice d a.length c, .slice g b.length f])/\
 I7 w base ⟨k,op,a, .slice d a.length c, .slice g b.length f,b⟩/\(Ah.mk k op a (.slice d a.length c) (.slice g b.length f) b).net=n/\∀x∈(Ah.mk k op a (.slice d a.length c) (.slice g b.length f) b).vals,x∈vs\/∀q,x.ownBlock=some q->lo<=q
theorem Aly (k:Int)(base:Nat)(f:List Ah)(a:Option Addr)(cap:Nat)(w:World)(J:Gq w base (.slice a f.length cap) f)(hl:Stil.sizes (f.map Ah.net)<=999999)(ac:base<=w.heap.size):
  Calls prog 113 #[.int .i64 k, .slice a f.length cap] w λe Y=>Ap4 Y base (Bq f) w.heap.size (Gj k (Dh k (f.map Ah.net))) e/\Below w.heap.size w Y:=by
 have E:=hid (λW B h C h2=>Ahq k B base f a cap W C h2 (J.below h) hl (A9f ac h.size));obtain⟨F,hF⟩:∃F,F=Dh k (f.map Ah.net):=⟨_,rfl⟩
 rw[<-hF] at E ⊢;have iD:=hid (λx hx q r=>(J.lt x (A87 _ hx) q r).2);clear J hl hF;go_enter func113,ntmps113;go_upto_region 2 with(go_at_call 120;refine(E _ _ blA (by simp[go_sem]) yAb).mono ?_;rintro e d ⟨l,o,b,rfl,Z,ab,G,hsub,hvl⟩;have y:=hid Z;have u:=hid ab;have A:Hid (∀x∈(Value.slice l b.length o)::Bq b,x.ownBlock≠some (w.heap.size+1)):=yBh;have z:Hid (∀x∈(Value.slice l b.length o)::Bq b,x∈Bq f\/∀q,x.ownBlock=some q->w.heap.size<=q):=(by intro x hx;rcases List.mem_cons.1 hx with rfl | hx;(exact .inr (λq r=>A9f yAb (hvl q r)));(exact .inl (hsub.subset hx)));clear Z ab hsub hvl)
 obtain⟨j,s⟩:=Eh G;have ah:w.heap.size+1<d.heap.size:=A82 spz G.size;have kd:d.cell? ⟨w.heap.size,0,none⟩=some (.int .i64 k):=by rw[j _ _ yAb];simp[go_sem]
 have N:d.cell? ⟨w.heap.size+1,0,none⟩=some (.int .i64 0):=by rw[j _ _ spz];simp[go_sem]
 have z1:d.cell? ⟨w.heap.size+1,1,none⟩=some (.int .i64 0):=by rw[j _ _ spz];simp[go_sem]
 have z2:d.cell? ⟨w.heap.size+1,2,none⟩=some (.slice none 0 0):=by rw[j _ _ spz];simp[go_sem]
 have P:d.cell? ⟨w.heap.size+1,3,none⟩=some (.slice none 0 0):=by rw[j _ _ spz];simp[go_sem]
 have f0:d.frozen? ⟨w.heap.size+1,0,none⟩=false:=by rw[s _ _ spz];simp[go_sem]
 have f1:d.frozen? ⟨w.heap.size+1,1,none⟩=false:=by rw[s _ _ spz];simp[go_sem]
 have f2:d.frozen? ⟨w.heap.size+1,2,none⟩=false:=by rw[s _ _ spz];simp[go_sem]
 have f3:d.frozen? ⟨w.heap.size+1,3,none⟩=false:=by rw[s _ _ spz];simp[go_sem]
 have ag:Below w.heap.size w d:=blA;clear j s G E iD;by_cases C:b.length=1
 ·obtain⟨m,rfl⟩:=List.length_eq_one_iff.1 C
  have i:=u.one 0 spz;simp only[Bab] at i;obtain⟨g,c,T,_,ae,_,t⟩:=Cf u.1 spz;obtain⟨a1,a2,a3,a4⟩:=Gx [m] 0 spz;have M:=t _ _ a1;have S:=t _ _ a2;have U:=t _ _ a3;have y3:=t _ _ a4;simp only[Bab,Bbd,A9c] at M S U y3;have L:=(Ee _ _ _).1 i.1;obtain⟨d1,d2,hd⟩:=Ac L.1;obtain⟨Q,X,aa⟩:=Ac L.2.1;simp only[Value.slice.injEq] at T;obtain⟨rfl,_,rfl⟩:=T;have I:Hid (Gj k F=m.net):=by show _=_;rw[<-y.out];rfl
  have K:=hid (λx hx=>A x (A87 _ (by rw[Dt];exact hx)));have H:=hid (λx hx=>z x (A87 _ (by rw[Dt];exact hx)));clear A y z;obtain⟨O,V,R,yZ,yY,aC⟩:=m;simp only at hd aa M S U y3;subst hd;subst aa;have D:=hid i;clear i L t u;simp only[A93]
  go_wp2
  refine bodyPost_ret (v:=.agg #[.int .i64 O, .int .i64 V, .slice d1 R.length d2, .slice Q aC.length X]) (by simp[results,results113,go_sem,N,z1,z2,P]) rfl ⟨⟨O,V,R,d1,d2,Q,X,aC,rfl,?_,I.symm,H.out⟩,blA⟩;exact I7.setO4 D K.out
 ·have I:Hid (Gj k F=⟨k,⟨0,[]⟩,b.map Ah.net⟩):=by
   show _=_
   rw[<-y.out];unfold Gj;rw[dif_neg (by simpa using C)]
  have i:=u.net k 0 [] (World.ownsRow_nil _ _ _ _) (λx _=>Le x);have D:=hid i;have K:Hid (∀x∈(Ah.mk k 0 [] (.slice none 0 0) (.slice l b.length o) b).vals,x.ownBlock≠some (w.heap.size+1)):=by
   intro x hx;rw[Ah.vals_eq] at hx;rcases List.mem_cons.1 hx with rfl | hx
   ·intro e;cases e
   ·exact A x hx
  have H:Hid (∀x∈(Ah.mk k 0 [] (.slice none 0 0) (.slice l b.length o) b).vals,x∈Bq f\/∀q,x.ownBlock=some q->w.heap.size<=q):=by
   intro x hx;rw[Ah.vals_eq] at hx;rcases List.mem_cons.1 hx with rfl | hx
   ·exact .inr (λq r=>by cases r)
   ·exact z x hx
  clear z;have af:((b.length:Int)==1)=false:=by rw[A95];omega
  have qh:¬((b.length:Int)=1):=omz
  clear i u A y
  go_wp2
  refine bodyPost_ret (v:=.agg #[.int .i64 k, .int .i64 0, .slice none 0 0, .slice l b.length o]) (by simp[results,results113,go_sem,N,z1,z2,P]) rfl ⟨⟨k,0,[],none,0,l,o,b,rfl,?_,by rw[Ah.net_eq,I.out],H.out⟩,blA⟩;exact I7.setO4 D K.out
theorem Iq {ob:Obj}{c p:Nat}(h:c<W.heap.size):(W.alloc ob).cell? ⟨c,p,none⟩=W.cell? ⟨c,p,none⟩:=(Aa W ob).cell (p:=⟨c,p,none⟩) h
theorem Gq.pair {w:World}{b a:Ah}(h1:MOk w base b)(g:MOk w base a)(l:(b.vals++a.vals).Pairwise Aside)(j:base<=w.heap.size):Gq (w.alloc (.cells #[.int .i64 b.kind, .int .i64 b.op,b.av,b.kv, .int .i64 a.kind, .int .i64 a.op,a.av,a.kv] 30)) base (.slice (some ⟨w.heap.size,0,none⟩) 2 2) [b,a]:=by
 have i:Bq [b,a]=b.vals++a.vals:=by simp[Bq]
 refine⟨?_,λx f=>?_,?_⟩
 ·exact World.ownsRow_lit w #[.int .i64 b.kind, .int .i64 b.op,b.av,b.kv, .int .i64 a.kind, .int .i64 a.op,a.av,a.kv] 2 j yAe rfl
 ·rcases List.mem_cons.1 f with rfl | f
  ·exact h1.below (Aa _ _)
  ·rw[List.mem_singleton.1 f];exact g.below (Aa _ _)
 ·rw[i,A9p]
  refine⟨λy c=>(Eg (n:=w.heap.size) (λk d=>?_) (λk d=>?_)).symm,l⟩
  ·rcases List.mem_append.1 c with c | c
   ·exact(h1.lt b y c k d).2
   ·exact(g.lt a y c k d).2
  ·have e:w.heap.size=k:=by simpa[Value.ownBlock] using d
   omega
theorem Alv (f o1:Int)(c:List Stil.Dev)(i:Option Addr)(k:Nat)(o:Option Addr)(j:Nat)(b:List Ah)(g o2:Int)(d:List Stil.Dev)(m:Option Addr)(l:Nat)(r:Option Addr)(s:Nat)(a:List Ah)(base:Nat)(w:World)
  (h1:MOk w base (Ah.mk f o1 c (.slice i c.length k) (.slice o b.length j) b)) (U:MOk w base (Ah.mk g o2 d (.slice m d.length l) (.slice r a.length s) a)) (hp:((Ah.mk f o1 c (.slice i c.length k) (.slice o b.length j) b).vals++(Ah.mk g o2 d (.slice m d.length l) (.slice r a.length s) a).vals).Pairwise Aside) (an:base<=w.heap.size) (hs:Stil.sizes [(Ah.mk f o1 c (.slice i c.length k) (.slice o b.length j) b).net,(Ah.mk g o2 d (.slice m d.length l) (.slice r a.length s) a).net]<=999999) (ao:Cj (Ah.mk f o1 c (.slice i c.length k) (.slice o b.length j) b).net) (ab:Cj (Ah.mk g o2 d (.slice m d.length l) (.slice r a.length s) a).net):
  Calls prog 114 #[.agg #[.int .i64 f, .int .i64 o1, .slice i c.length k, .slice o b.length j], .agg #[.int .i64 g, .int .i64 o2, .slice m d.length l, .slice r a.length s]] w λe I=>Ap4 I base ((Ah.mk f o1 c (.slice i c.length k) (.slice o b.length j) b).vals++(Ah.mk g o2 d (.slice m d.length l) (.slice r a.length s) a).vals) w.heap.size (Ny (Ah.mk f o1 c (.slice i c.length k) (.slice o b.length j) b).net (Ah.mk g o2 d (.slice m d.length l) (.slice r a.length s) a).net) e/\Below w.heap.size w I:=by
 obtain⟨f1,f2⟩:=MOk.from _ h1;obtain⟨f3,f4⟩:=MOk.from _ U;have sN:Hid (∀W,Below w.heap.size w W->Calls prog 62 #[.agg #[.int .i64 f, .int .i64 o1, .slice i c.length k, .slice o b.length j]] W λe I=>e=.returned (.bool (Bl (Ah.mk f o1 c (.slice i c.length k) (.slice o b.length j) b).net))/\Below W.heap.size W I):=by
  intro W h;have:=Tm (Ah.mk f o1 c (.slice i c.length k) (.slice o b.length j) b).net _ _ W (f1.at.below h) (f2.at.below h) ao
  have e:=Ah.net_eq (Ah.mk f o1 c (.slice i c.length k) (.slice o b.length j) b);have xI:(Ah.mk f o1 c (.slice i c.length k) (.slice o b.length j) b).net.kind=f:=by rw[e]
  have xH:(Ah.mk f o1 c (.slice i c.length k) (.slice o b.length j) b).net.one.op=o1:=by rw[e]
  rw[xI,xH] at this;exact this
 have kM:Hid (∀W,Below w.heap.size w W->Calls prog 62 #[.agg #[.int .i64 g, .int .i64 o2, .slice m d.length l, .slice r a.length s]] W λe I=>e=.returned (.bool (Bl (Ah.mk g o2 d (.slice m d.length l) (.slice r a.length s) a).net))/\Below W.heap.size W I):=by
  intro W h;have:=Tm (Ah.mk g o2 d (.slice m d.length l) (.slice r a.length s) a).net _ _ W (f3.at.below h) (f4.at.below h) ab
  have e:=Ah.net_eq (Ah.mk g o2 d (.slice m d.length l) (.slice r a.length s) a);have xI:(Ah.mk g o2 d (.slice m d.length l) (.slice r a.length s) a).net.kind=g:=by rw[e]
  have xH:(Ah.mk g o2 d (.slice m d.length l) (.slice r a.length s) a).net.one.op=o2:=by rw[e]
  rw[xI,xH] at this;exact this
 have ai:=List.pairwise_append.1 hp;have ug:Hid (∀W,Below w.heap.size w W->I7 W base (Ah.mk f o1 c (.slice i c.length k) (.slice o b.length j) b)):=λW h=>⟨h1.below h,ai.1⟩
 have uf:Hid (∀W,Below w.heap.size w W->I7 W base (Ah.mk g o2 d (.slice m d.length l) (.slice r a.length s) a)):=λW h=>⟨U.below h,ai.2.1⟩
 have iD:Hid (∀x∈(Ah.mk f o1 c (.slice i c.length k) (.slice o b.length j) b).vals++(Ah.mk g o2 d (.slice m d.length l) (.slice r a.length s) a).vals,∀q,x.ownBlock=some q->q<w.heap.size):=by
  intro x u q M;rcases List.mem_append.1 u with u | u
  ·exact(h1.lt _ x u q M).2
  ·exact(U.lt _ x u q M).2
 have L:Hid (∀W,Below w.heap.size w W->Calls prog 113 #[.int .i64 2, .slice (some ⟨W.heap.size,0,none⟩) 2 2] (W.alloc (.cells #[.int .i64 f, .int .i64 o1, .slice i c.length k, .slice o b.length j, .int .i64 g, .int .i64 o2, .slice m d.length l, .slice r a.length s] 30)) λe I=>Ap4 I base ((Ah.mk f o1 c (.slice i c.length k) (.slice o b.length j) b).vals++(Ah.mk g o2 d (.slice m d.length l) (.slice r a.length s) a).vals) (W.alloc (.cells #[.int .i64 f, .int .i64 o1, .slice i c.length k, .slice o b.length j, .int .i64 g, .int .i64 o2, .slice m d.length l, .slice r a.length s] 30)).heap.size (Gj 2 (Dh 2 [(Ah.mk f o1 c (.slice i c.length k) (.slice o b.length j) b).net,(Ah.mk g o2 d (.slice m d.length l) (.slice r a.length s) a).net])) e/\Below (W.alloc (.cells #[.int .i64 f, .int .i64 o1, .slice i c.length k, .slice o b.length j, .int .i64 g, .int .i64 o2, .slice m d.length l, .slice r a.length s] 30)).heap.size (W.alloc (.cells #[.int .i64 f, .int .i64 o1, .slice i c.length k, .slice o b.length j, .int .i64 g, .int .i64 o2, .slice m d.length l, .slice r a.length s] 30)) I):=by
  intro W h;have hr:=Gq.pair (h1.below h) (U.below h) hp (A9f an h.size);have:=Aly 2 base [(Ah.mk f o1 c (.slice i c.length k) (.slice o b.length j) b),(Ah.mk g o2 d (.slice m d.length l) (.slice r a.length s) a)] (some ⟨W.heap.size,0,none⟩) 2 _ hr hs (A9f an (A9f h.size spz))
  have hv:Bq [(Ah.mk f o1 c (.slice i c.length k) (.slice o b.length j) b),(Ah.mk g o2 d (.slice m d.length l) (.slice r a.length s) a)]=(Ah.mk f o1 c (.slice i c.length k) (.slice o b.length j) b).vals++(Ah.mk g o2 d (.slice m d.length l) (.slice r a.length s) a).vals:=by simp[Bq]
  rw[hv] at this;exact this
 obtain⟨S,hS⟩:∃S,S=Ny (Ah.mk f o1 c (.slice i c.length k) (.slice o b.length j) b).net (Ah.mk g o2 d (.slice m d.length l) (.slice r a.length s) a).net:=⟨_,rfl⟩
 have G:Hid (S=if Bl (Ah.mk f o1 c (.slice i c.length k) (.slice o b.length j) b).net then(Ah.mk g o2 d (.slice m d.length l) (.slice r a.length s) a).net else if Bl (Ah.mk g o2 d (.slice m d.length l) (.slice r a.length s) a).net then(Ah.mk f o1 c (.slice i c.length k) (.slice o b.length j) b).net else Gj 2 (Dh 2 [(Ah.mk f o1 c (.slice i c.length k) (.slice o b.length j) b).net,(Ah.mk g o2 d (.slice m d.length l) (.slice r a.length s) a).net])):=hS;rw[<-hS];obtain⟨O,al⟩:∃t,t=Bl (Ah.mk f o1 c (.slice i c.length k) (.slice o b.length j) b).net:=⟨_,rfl⟩
 obtain⟨t2,ak⟩:∃t,t=Bl (Ah.mk g o2 d (.slice m d.length l) (.slice r a.length s) a).net:=⟨_,rfl⟩
 rw[<-al] at sN G;rw[<-ak] at kM G;obtain⟨Q,og⟩:∃Q,Q=(Ah.mk f o1 c (.slice i c.length k) (.slice o b.length j) b).vals++(Ah.mk g o2 d (.slice m d.length l) (.slice r a.length s) a).vals:=⟨_,rfl⟩
 have jJ:=hid og;rw[<-og] at iD L ⊢;obtain⟨X1,ah⟩:∃ag,ag=(Ah.mk f o1 c (.slice i c.length k) (.slice o b.length j) b).net:=⟨_,rfl⟩
 obtain⟨X2,af⟩:∃ag,ag=(Ah.mk g o2 d (.slice m d.length l) (.slice r a.length s) a).net:=⟨_,rfl⟩
 have av:=hid ah;have zQ:=hid af;rw[<-ah,<-af] at L G;clear hS al ak og ah af f1 f2 f3 f4 h1 U hp ai hs ao ab;cases O
 ·cases t2
  ·have K:S=Gj 2 (Dh 2 [X1,X2]):=by rw[G.out];rfl
   rw[<-K] at L;clear G K ug uf;go_enter func114,ntmps114;go_upto_region 3 with(go_at_call 62;refine(sN _ blA).mono ?_;rintro e y ⟨rfl,z⟩;obtain⟨A,hf⟩:=Eh z;have aa:w.heap.size<y.heap.size:=A82 yAb z.size;have ae:w.heap.size+1<y.heap.size:=A82 spz z.size;have D:w.heap.size+1+1<y.heap.size:=A82 spz z.size;have J:Below w.heap.size w y:=blA)
   go_upto_region 5 with(go_at_call 62;refine(kM _ blA).mono ?_;rintro e F ⟨rfl,C⟩;obtain⟨H,ab⟩:=Eh C;have au:=A82 aa C.size;have aw:=A82 ae C.size;have E:=A82 D C.size;have N:Below w.heap.size w F:=(by exact J.trans (C.mono J.size)))
   go_wp2_with (go_at_call 113;refine(L F N).mono ?_;rintro e w3 ⟨⟨mk,aJ,aF,s0,t0,s1,O,aC,rfl,ar,ap,aj⟩,ac⟩;obtain⟨Z,ax⟩:=Eh ac;have az:=A82 (A82 E spz) ac.size;have bG:=hid ar;have P:=hid ap;have HW:Hid (∀x∈(Ah.mk mk aJ aF (.slice s0 aF.length t0) (.slice s1 aC.length O) aC).vals,x∈Q\/∀q,x.ownBlock=some q->F.heap.size<=q):=(λx u=>(aj x u).imp id (λh q M=>A9f spz (h q M)));clear ar ap aj)
   have T:w3.cell? ⟨w.heap.size+1+1,0,none⟩=some (.int .i64 0):=by rw[Z _ _ (A82 E spz),Iq E,H _ _ D,A _ _ spz];simp[go_sem]
   have X:w3.cell? ⟨w.heap.size+1+1,1,none⟩=some (.int .i64 0):=by rw[Z _ _ (A82 E spz),Iq E,H _ _ D,A _ _ spz];simp[go_sem]
   have Y:w3.cell? ⟨w.heap.size+1+1,2,none⟩=some (.slice none 0 0):=by rw[Z _ _ (A82 E spz),Iq E,H _ _ D,A _ _ spz];simp[go_sem]
   have V:w3.cell? ⟨w.heap.size+1+1,3,none⟩=some (.slice none 0 0):=by rw[Z _ _ (A82 E spz),Iq E,H _ _ D,A _ _ spz];simp[go_sem]
   refine bodyPost_ret (v:=.agg #[.int .i64 mk, .int .i64 aJ, .slice s0 aF.length t0, .slice s1 aC.length O]) (by simp[results,results114,go_sem,T,X,Y,V]) rfl ⟨⟨mk,aJ,aF,s0,t0,s1,O,aC,rfl,?_,P.out,λx u=>(HW x u).imp id (λh q M=>by have:=h q M;omega)⟩,?_⟩
   ·refine I7.setO4 bG (λx u e=>?_)
    rcases HW x u with h | h
    ·have:=iD x h _ e;omega
    ·have:=h _ e;omega
   ·have ay:=(Be N _).trans (ac.mono (by have:=N.size;simp;omega))
    clear J N z C ac
    exact blA
  ·have K:S=X1:=by rw[G.out];rfl
   have P:Hid ((Ah.mk f o1 c (.slice i c.length k) (.slice o b.length j) b).net=S):=by show _=_;rw[K,av.out]
   have R:Hid (∀x∈(Ah.mk f o1 c (.slice i c.length k) (.slice o b.length j) b).vals,x∈Q):=λx u=>by rw[jJ.out];exact A9e _ u
   clear G K L uf;go_enter func114,ntmps114;go_upto_region 3 with(go_at_call 62;refine(sN _ blA).mono ?_;rintro e y ⟨rfl,z⟩;obtain⟨A,hf⟩:=Eh z;have aa:w.heap.size<y.heap.size:=A82 yAb z.size;have ae:w.heap.size+1<y.heap.size:=A82 spz z.size;have D:w.heap.size+1+1<y.heap.size:=A82 spz z.size;have J:Below w.heap.size w y:=blA)
   go_wp2_with (go_at_call 62;refine(kM _ blA).mono ?_;rintro e F ⟨rfl,C⟩;obtain⟨H,ab⟩:=Eh C;have au:=A82 aa C.size;have aw:=A82 ae C.size;have E:=A82 D C.size;have N:Below w.heap.size w F:=(by exact J.trans (C.mono J.size)))
   have T:F.cell? ⟨w.heap.size+1+1,0,none⟩=some (.int .i64 0):=by rw[H _ _ D,A _ _ spz];simp[go_sem]
   have X:F.cell? ⟨w.heap.size+1+1,1,none⟩=some (.int .i64 0):=by rw[H _ _ D,A _ _ spz];simp[go_sem]
   have Y:F.cell? ⟨w.heap.size+1+1,2,none⟩=some (.slice none 0 0):=by rw[H _ _ D,A _ _ spz];simp[go_sem]
   have V:F.cell? ⟨w.heap.size+1+1,3,none⟩=some (.slice none 0 0):=by rw[H _ _ D,A _ _ spz];simp[go_sem]
   refine bodyPost_ret (v:=.agg #[.int .i64 f, .int .i64 o1, .slice i c.length k, .slice o b.length j]) (by simp[results,results114,go_sem,T,X,Y,V]) rfl ⟨⟨f,o1,c,i,k,o,j,b,rfl,?_,P.out,λx u=>.inl (R x u)⟩,?_⟩
   ·exact I7.setO4 (ug F N) (λx u e=>by have:=iD x (R x u) _ e;omega)
   ·clear J z C
    exact blA
 ·have K:S=X2:=by rw[G.out];rfl
  have P:Hid ((Ah.mk g o2 d (.slice m d.length l) (.slice r a.length s) a).net=S):=by show _=_;rw[K,zQ.out]
  have R:Hid (∀x∈(Ah.mk g o2 d (.slice m d.length l) (.slice r a.length s) a).vals,x∈Q):=λx u=>by rw[jJ.out];exact A9b _ u
  clear G K L ug kM;go_enter func114,ntmps114
  go_wp2_with (go_at_call 62;refine(sN _ blA).mono ?_;rintro e y ⟨rfl,z⟩;obtain⟨A,hf⟩:=Eh z;have aa:w.heap.size<y.heap.size:=A82 yAb z.size;have ae:w.heap.size+1<y.heap.size:=A82 spz z.size;have D:w.heap.size+1+1<y.heap.size:=A82 spz z.size;have J:Below w.heap.size w y:=blA)
  have T:y.cell? ⟨w.heap.size+1+1,0,none⟩=some (.int .i64 0):=by rw[A _ _ spz];simp[go_sem]
  have X:y.cell? ⟨w.heap.size+1+1,1,none⟩=some (.int .i64 0):=by rw[A _ _ spz];simp[go_sem]
  have Y:y.cell? ⟨w.heap.size+1+1,2,none⟩=some (.slice none 0 0):=by rw[A _ _ spz];simp[go_sem]
  have V:y.cell? ⟨w.heap.size+1+1,3,none⟩=some (.slice none 0 0):=by rw[A _ _ spz];simp[go_sem]
  refine bodyPost_ret (v:=.agg #[.int .i64 g, .int .i64 o2, .slice m d.length l, .slice r a.length s]) (by simp[results,results114,go_sem,T,X,Y,V]) rfl ⟨⟨g,o2,d,m,l,r,s,a,rfl,?_,P.out,λx u=>.inl (R x u)⟩,?_⟩
  ·exact I7.setO4 (uf y J) (λx u e=>by have:=iD x (R x u) _ e;omega)
  ·clear z
   exact blA
theorem A5z (a:B=W.heap.size){t:TypeId}:∀j u,[u0,u1][j]?=some u->(W.alloc (.cells #[u0,u1] t)).cell? ((⟨B,0,none⟩:Addr).add j)=some u:=by
 subst a;intro j u h;rw[Addr.add_lit]
 match j,h with
 | 0,h=>simp at h;subst h;simp[go_sem]
 | 1,h=>simp at h;subst h;simp[go_sem]
 | j+2,h=>simp at h
theorem Yb.apart {w w1:World}{v:Value}{es c:List Fg}{b1:Nat}(h:Yb w base v es)(l:∀m∈c,EOk w1 b1 m)(j:w.heap.size<=b1)(i:(Hq c).Pairwise Aside):(v::(Hq es++Hq c)).Pairwise Aside:=by
 have f:=h.lt;have d:∀y∈Hq c,∀k,y.ownBlock=some k->w.heap.size<=k:=by
  intro y d k b;obtain⟨m,n,rfl⟩:=Qh.1 d;exact A9f j ((l m n).lt k b).1
 have e:=h.2.2;rw[A9p] at e ⊢;refine⟨λy a=>?_,List.pairwise_append.2 ⟨e.2,i,λx g y a=>Eg (λk b=>(f x (A87 _ g) k b).2) (d y a)⟩⟩;rcases List.mem_append.1 a with a | a
 ·exact e.1 y a
 ·exact Eg (λk b=>(f v spz k b).2) (d y a)
theorem A20 (x:Stil.Elem)(B base lo:Nat)(i:Option Addr)(g:Nat)(b:List Fg)(l:Value)(w:World)(E:∀W,Below w.heap.size w W->Calls prog 76 #[.agg #[.int .i64 x.op,l]] W λe d=>∃u,e=.returned (.agg #[.int .i64 x.op,u])/\d.ownsRow W.heap.size 34 3 u x.args.length (Am x.args)/\Below W.heap.size W d)
  (M:A7 w l x.args) (U:w.cell? ⟨B,0,none⟩=some (.func (.func 76) #[] #[])) (V:B<w.heap.size) (D:Yb w base (.slice i b.length g) b) (hl:b.length+1<=1000000) (P:base<=w.heap.size) (L:lo<=w.heap.size) (v:∀k,(Value.slice i b.length g).ownBlock=some k->lo<=k):
  Calls prog 111 #[.slice i b.length g, .agg #[.int .i64 x.op,l], .pointer (some ⟨B,0,none⟩)] w λe d=>∃(a:Option Addr) (c:Nat) (m:Fg),e=.returned (.slice a (b.length+1) c)/\m.elem=x/\Yb d base (.slice a (b.length+1) c) (b++[m])/\Below lo w d/\∀k,(Value.slice a (b.length+1) c).ownBlock=some k->lo<=k:=by
 have Q:=hid E;have y:=hid D;have G:=hid v;obtain⟨R,X,rfl,H⟩:=M;clear H;clear E D v;go_enter func111,ntmps111
 go_wp2_with (first | (go_at_call 76;refine(Q _ blA).mono ?_;rintro e w1 ⟨u,rfl,o,S⟩;obtain⟨j,f,hu⟩:=Ac o;subst hu;have q:Below w.heap.size w w1:=blA;have T:=q.size;have A:Hid (EOk w1 w.heap.size (Fg.mk x.op x.args (.slice j x.args.length f))/\True):=⟨Joins.ownsRow_le o spz,trivial⟩;have N:Hid ((Fg.mk x.op x.args (.slice j x.args.length f)).elem=x):=rfl;clear o) | (at_builtin;refine Aa3 rfl _ _ rfl base lo i g b [(Fg.mk x.op x.args (.slice j x.args.length f))] _ 1 rfl rfl ((y.below q).below (Aa _ _)) (λ_=>⟨_,rfl,by exact A5z spz⟩) (λm t=>by rw[List.mem_singleton.1 t];exact(Joins.ownsRow_le (ownsRow_below A.1 (Aa _ _)) P)) (y.apart (w1:=w1) (b1:=w.heap.size) (λm t=>by rw[List.mem_singleton.1 t];exact A.1) (A88 _) (Baw _ _)) (by simp only[A93];exact hl) yBd yBd G.out ?_;intro s r O z I C;have F:Hid (Yb O base (.slice s (b.length+1) r) (b++[(Fg.mk x.op x.args (.slice j x.args.length f))])):=z;have J:Hid (∀k,(Value.slice s (b.length+1) r).ownBlock=some k->lo<=k):=C;clear z C;have K:=(((Be q _).mono L)).trans I))
 go_ret;exact⟨s,r,_,rfl,N.out,F.out,K,J.out⟩
theorem A5o (es:List Stil.Elem)(I:∀x∈es,∀(g:Value) (w:World),A7 w g x.args->Calls prog 76 #[.agg #[.int .i64 x.op,g]] w λe f=>∃u,e=.returned (.agg #[.int .i64 x.op,u])/\f.ownsRow w.heap.size 34 3 u x.args.length (Am x.args)/\Below w.heap.size w f)
  (B:Nat) (v:Value) (w:World) (N:Fh w v es) (hl:es.length<=999999) (D:w.cell? ⟨B,0,none⟩=some (.func (.func 76) #[] #[])) (F:B<w.heap.size):
  Calls prog 110 #[v, .slice none 0 0, .func (.func 111) #[] #[.pointer (some ⟨B,0,none⟩)]] w λe f=>∃(a:Option Addr) (c:Nat) (ms:List Fg),e=.returned (.slice a ms.length c)/\ms.map Fg.elem=es/\Yb f w.heap.size (.slice a ms.length c) ms/\Below w.heap.size w f:=by
 obtain⟨a,cap,rfl,A⟩:=N;have L:=hid A;have IH:=hid I;have O:=hid D;clear A I D;go_enter func110,ntmps110
 go_wp2
 go_loopw [1,11] (λd i wr=>∃(j:Nat) (ms:List Fg) (ra:Option Addr) (rc:Nat),j<=es.length/\i=.int .i64 j/\d=.slice ra ms.length rc/\ms.map Fg.elem=(es.take j)/\Yb wr w.heap.size (.slice ra ms.length rc) ms/\Below w.heap.size w wr) (λ_ i _=>es.length - (intOf i).toNat)
 case atStart=>exact⟨0,[],none,0,omz,rfl,rfl,rfl,Yb.nil _ _,Below.refl _ _⟩
 case round=>
  obtain⟨j,ms,ra,rc,hj,rfl,rfl,hmn,J,hb⟩:=hrel;have aQ:=hid hmn;have aU:=hid J;clear hmn J;by_cases t:j<es.length
  ·have Y:ms.length=j:=by
    have h1:=congrArg List.length aQ.out;simp only[A9j,Ba7] at h1;omega
   obtain⟨b,o,rfl,s,z⟩:=L j t;obtain⟨U,g,x1,l⟩:=z.below hb s;have G:=hid (A9m t);have E:Hid (∀W,Below wr.heap.size wr W->Calls prog 111 #[.slice ra ms.length rc, .agg #[.int .i64 es[j].op,g], .pointer (some ⟨B,0,none⟩)] W λe f=>∃(a:Option Addr) (c:Nat) (m:Fg),e=.returned (.slice a (ms.length+1) c)/\m.elem=es[j]/\Yb f w.heap.size (.slice a (ms.length+1) c) (ms++[m])/\Below w.heap.size W f/\∀k,(Value.slice a (ms.length+1) c).ownBlock=some k->w.heap.size<=k):=by
    intro W r;have q:=hb.trans (r.mono hb.size);exact A20 es[j] B w.heap.size w.heap.size ra rc ms g W (λV R=>IH es[j] (A9a t) g V ((l.below r).below R)) (l.below r) ((q.cell (p:=⟨B,0,none⟩) F).trans O.out) (A82 F q.size) (aU.below r) omz q.size q.size (λk Z=>(aU.1.lt k Z).1)
   obtain⟨x,C⟩:∃x,x=es[j]:=⟨_,rfl⟩
   rw[<-C] at E U l G;obtain⟨p0,r0,rfl,M⟩:=l;clear M;have ab:=A82 s hb.size;clear C z Y s
   go_wp2_with (go_at_call 111;refine(E _ blA).mono ?_;rintro e w2 ⟨Q,P,m,rfl,y,H,S,aa⟩;have T:=(show Below w.heap.size w _ from hb.trans ((show Below wr.heap.size wr _ from blA).mono hb.size)).trans S;have K:=hid y;have X:=hid H;clear y H aa)
   refine⟨⟨j+1,ms++[m],Q,P,omz,by go_num,spz,?_,by rw[A83];exact X.out,T⟩,by simp[intOf];omega⟩;rw[G.out,A9h,aQ.out,Ba0,K.out]
  ·exact zi0
theorem Aou (es:List Stil.Elem)(l:∀x∈es,∀(f:Value) (w:World),A7 w f x.args->Calls prog 76 #[.agg #[.int .i64 x.op,f]] w λe d=>∃u,e=.returned (.agg #[.int .i64 x.op,u])/\d.ownsRow w.heap.size 34 3 u x.args.length (Am x.args)/\Below w.heap.size w d)
  (v:Value) (w:World) (i:Fh w v es) (hl:es.length<=999999):
  Calls prog 95 #[v, .func (.func 76) #[] #[]] w λe d=>∃(a:Option Addr) (c:Nat) (b:List Fg),e=.returned (.slice a b.length c)/\b.map Fg.elem=es/\Yb d w.heap.size (.slice a b.length c) b/\Below w.heap.size w d:=by
 have r:=hid (λW B h z y=>A5o es l B v W (i.below h) hl z y);obtain⟨A,D,rfl,q⟩:=i;clear q l;go_enter func95,ntmps95
 go_wp2_with (go_at_call 110;refine(r _ _ blA (by simp[go_sem]) spz).mono ?_;rintro e s ⟨m,j,b,rfl,g,k,C⟩;have t:=hid g;have o:Hid (Yb s _ (.slice m b.length j) b):=k;clear g k)
 go_ret;exact⟨m,j,b,rfl,t.out,o.le spz,blA⟩
theorem A5y (b:B=W.heap.size){u2 u3 u4 a:Value}{t:TypeId}:∀j u,[u0,u1,u2,u3,u4,a][j]?=some u->(W.alloc (.cells #[u0,u1,u2,u3,u4,a] t)).cell? ((⟨B,0,none⟩:Addr).add j)=some u:=by
 subst b;intro j u h;rw[Addr.add_lit]
 match j,h with
 | 0,h=>simp at h;subst h;simp[go_sem]
 | 1,h=>simp at h;subst h;simp[go_sem]
 | 2,h=>simp at h;subst h;simp[go_sem]
 | 3,h=>simp at h;subst h;simp[go_sem]
 | 4,h=>simp at h;subst h;simp[go_sem]
 | 5,h=>simp at h;subst h;simp[go_sem]
 | j+6,h=>simp at h
theorem A21 (x:Stil.Arm)(B base lo:Nat)(j:Option Addr)(l:Nat)(b:List Dw)(D y E z:Value)(w:World)(P:∀W,Below w.heap.size w W->Calls prog 65 #[.agg #[.int .i64 x.net.kind, .int .i64 x.net.one.op,D,y,E,z]] W λe i=>Ar0 i W.heap.size (D5 x) e/\Below W.heap.size W i)
  (ae:A7 w D x.net.one.args) (U:D8 w y x.net.kids) (aa:Fh w E x.coils) (af:Eb w z x.kids) (aj:w.cell? ⟨B,0,none⟩=some (.func (.func 65) #[] #[])) (hB:B<w.heap.size) (J:Ue w base (.slice j b.length l) b) (hl:b.length+1<=1000000) (ag:base<=w.heap.size) (ac:lo<=w.heap.size) (K:∀k,(Value.slice j b.length l).ownBlock=some k->lo<=k):
  Calls prog 94 #[.slice j b.length l, .agg #[.int .i64 x.net.kind, .int .i64 x.net.one.op,D,y,E,z], .pointer (some ⟨B,0,none⟩)] w λe i=>∃(a:Option Addr) (c:Nat) (m:Dw),e=.returned (.slice a (b.length+1) c)/\m.arm=D5 x/\Ue i base (.slice a (b.length+1) c) (b++[m])/\Below lo w i/\∀k,(Value.slice a (b.length+1) c).ownBlock=some k->lo<=k:=by
 have IH:=hid P;have L:=hid J;have S:=hid K;obtain⟨p0,r0,rfl,vF⟩:=ae;obtain⟨p1,r1,rfl,gp⟩:=U;obtain⟨p2,r2,rfl,T⟩:=aa;obtain⟨p3,r3,rfl,Z⟩:=af;clear vF gp T Z;clear P J K;go_enter func94,ntmps94
 go_wp2_with (first | (go_at_call 65;refine(IH _ blA).mono ?_;rintro e w1 ⟨⟨k,op,d,o,r,ns,H,G,f,t,I,g,q,v,rfl,N,M⟩,ah⟩;have F:Below w.heap.size w w1:=blA;have ai:=F.size;have u:Hid (Qz w1 w.heap.size (Dw.mk ⟨k,op,d, .slice o d.length r, .slice H ns.length G,ns⟩ (.slice t f.length I) f (.slice q g.length v) g)):=N.le spz;have aQ:=hid M;clear N M) | (at_builtin;refine Acr rfl _ _ rfl base lo j l b [(Dw.mk ⟨k,op,d, .slice o d.length r, .slice H ns.length G,ns⟩ (.slice t f.length I) f (.slice q g.length v) g)] _ 1 rfl rfl ((L.below F).below (Aa _ _)) (λ_=>⟨_,rfl,by exact A5y spz⟩) (λm C=>by rw[List.mem_singleton.1 C];exact((u.1.le ag).below (Aa _ _))) (L.apart (w1:=w1) (b1:=w.heap.size) (λm C=>by rw[List.mem_singleton.1 C];exact u.1) (A88 _) (by rw[Afk];exact u.2)) (by simp only[A93];exact hl) yBd yBd S.out ?_;intro A s Y Q ab O;have R:Hid (Ue Y base (.slice A (b.length+1) s) (b++[(Dw.mk ⟨k,op,d, .slice o d.length r, .slice H ns.length G,ns⟩ (.slice t f.length I) f (.slice q g.length v) g)])):=Q;have V:Hid (∀k,(Value.slice A (b.length+1) s).ownBlock=some k->lo<=k):=O;clear Q O;have X:=(((Be F _).mono ac)).trans ab))
 go_ret;exact⟨A,s,_,rfl,aQ.out,R.out,X,V.out⟩
theorem A5p (es:List Stil.Arm)(P:∀x∈es,∀(r l s q:Value) (w:World),A7 w r x.net.one.args->D8 w l x.net.kids->Fh w s x.coils->Eb w q x.kids->Calls prog 65 #[.agg #[.int .i64 x.net.kind, .int .i64 x.net.one.op,r,l,s,q]] w λe g=>Ar0 g w.heap.size (D5 x) e/\Below w.heap.size w g)
  (B:Nat) (v:Value) (w:World) (aa:Eb w v es) (hl:es.length<=999999) (H:w.cell? ⟨B,0,none⟩=some (.func (.func 65) #[] #[])) (M:B<w.heap.size):
  Calls prog 93 #[v, .slice none 0 0, .func (.func 94) #[] #[.pointer (some ⟨B,0,none⟩)]] w λe g=>∃(a:Option Addr) (c:Nat) (ms:List Dw),e=.returned (.slice a ms.length c)/\ms.map Dw.arm=es.map D5/\Ue g w.heap.size (.slice a ms.length c) ms/\Below w.heap.size w g:=by
 obtain⟨a,cap,rfl,F⟩:=aa;have R:=hid F;have IH:=hid P;have cO:=hid H;clear F P H;go_enter func93,ntmps93
 go_wp2
 go_loopw [1,11] (λd i wr=>∃(j:Nat) (ms:List Dw) (ra:Option Addr) (rc:Nat),j<=es.length/\i=.int .i64 j/\d=.slice ra ms.length rc/\ms.map Dw.arm=(es.take j).map D5/\Ue wr w.heap.size (.slice ra ms.length rc) ms/\Below w.heap.size w wr) (λ_ i _=>es.length - (intOf i).toNat)
 case atStart=>exact⟨0,[],none,0,omz,rfl,rfl,rfl,Ue.nil _ _,Below.refl _ _⟩
 case round=>
  obtain⟨j,ms,ra,rc,hj,rfl,rfl,hmn,Q,hb⟩:=hrel;have aQ:=hid hmn;have aU:=hid Q;clear hmn Q;by_cases D:j<es.length
  ·have S:ms.length=j:=by
    have h1:=congrArg List.length aQ.out;simp only[A9j,Ba7] at h1;omega
   obtain⟨b,o,rfl,E,J⟩:=R j D;obtain⟨O,s,q,x4,x5,y,A⟩:=(Sl.below hb _ _ _ J E).open;obtain⟨x0,x1,r,l,x2,x3,z,t⟩:=O.open;have N:=hid (A9m D);have L:Hid (∀W,Below wr.heap.size wr W->Calls prog 94 #[.slice ra ms.length rc, .agg #[.int .i64 es[j].net.kind, .int .i64 es[j].net.one.op,r,l,s,q], .pointer (some ⟨B,0,none⟩)] W λe g=>∃(a:Option Addr) (c:Nat) (m:Dw),e=.returned (.slice a (ms.length+1) c)/\m.arm=D5 es[j]/\Ue g w.heap.size (.slice a (ms.length+1) c) (ms++[m])/\Below w.heap.size W g/\∀k,(Value.slice a (ms.length+1) c).ownBlock=some k->w.heap.size<=k):=by
    intro W f;have u:=hb.trans (f.mono hb.size);exact A21 es[j] B w.heap.size w.heap.size ra rc ms r l s q W (λac C=>IH es[j] (A9a D) r l s q ac ((z.below f).below C) ((t.below f).below C) ((y.below f).below C) ((A.below f).below C)) (z.below f) (t.below f) (y.below f) (A.below f) ((u.cell (p:=⟨B,0,none⟩) M).trans cO.out) (A82 M u.size) (aU.below f) omz u.size u.size (λk hk=>(aU.1.lt k hk).1)
   obtain⟨x,K⟩:∃x,x=es[j]:=⟨_,rfl⟩
   rw[<-K] at L x0 x1 z t y A N;obtain⟨p0,r0,rfl,U⟩:=z;obtain⟨p1,r1,rfl,Y⟩:=t;obtain⟨p2,r2,rfl,fM⟩:=y;obtain⟨p3,r3,rfl,nS⟩:=A;clear U Y fM nS O;have ag:=A82 E hb.size;clear K J S E
   go_wp2_with (go_at_call 94;refine(L _ blA).mono ?_;rintro e w2 ⟨X,V,m,rfl,G,I,ae,T⟩;have ab:=(show Below w.heap.size w _ from hb.trans ((show Below wr.heap.size wr _ from blA).mono hb.size)).trans ae;have Z:=hid G;have af:=hid I;clear G I T)
   refine⟨⟨j+1,ms++[m],X,V,omz,by go_num,spz,?_,by rw[A83];exact af.out,ab⟩,by simp[intOf];omega⟩;rw[N.out,A9h,A9h,aQ.out,Ba0,Ba0,Z.out]
  ·exact zi0
theorem Aev (es:List Stil.Arm)(q:∀x∈es,∀(f l g o:Value) (w:World),A7 w f x.net.one.args->D8 w l x.net.kids->Fh w g x.coils->Eb w o x.kids->Calls prog 65 #[.agg #[.int .i64 x.net.kind, .int .i64 x.net.one.op,f,l,g,o]] w λe d=>Ar0 d w.heap.size (D5 x) e/\Below w.heap.size w d)
  (v:Value) (w:World) (j:Eb w v es) (hl:es.length<=999999):
  Calls prog 64 #[v, .func (.func 65) #[] #[]] w λe d=>∃(a:Option Addr) (c:Nat) (b:List Dw),e=.returned (.slice a b.length c)/\b.map Dw.arm=es.map D5/\Ue d w.heap.size (.slice a b.length c) b/\Below w.heap.size w d:=by
 have u:=hid (λW B h C A=>A5p es q B v W (j.below h) hl C A);obtain⟨D,F,rfl,t⟩:=j;clear t q;go_enter func64,ntmps64
 go_wp2_with (go_at_call 93;refine(u _ _ blA (by simp[go_sem]) spz).mono ?_;rintro e y ⟨r,k,b,rfl,i,m,E⟩;have z:=hid i;have s:Hid (Ue y _ (.slice r b.length k) b):=m;clear i m)
 go_ret;exact⟨r,k,b,rfl,z.out,s.le spz,blA⟩
end Go.Proofs.YtobbpffcggchmaaGreatDoor
