import Derived.Test.YtnpfcnolmkanfaaGreatDoorGt
import Derived.Deep.RegionHeld3
import Derived.Test.YtnpfcnolmkanfaaGreatDoorY6b
set_option maxHeartbeats 4000000
set_option maxRecDepth 100000
namespace Go.Proofs.YtnpfcnolmkanfaaGreatDoor
open Tryz
open Stil
open Go.RowKit Go.Sort Go.BigFrame
theorem A2n (es:List Stil.Elem)(v:Value)(w:World)(ag:Hz w v es)(hl:es.length<=999999)(hf:∀x∈es,x.fits):
  Calls prog 25 #[v] w λe X=>∃(a:Option Addr) (c:Nat) (ms:List D8),e=.returned (.slice a ms.length c)/\ms.map D8.elem=es/\Ud X w.heap.size (.slice a ms.length c) ms/\Below w.heap.size w X:=by
 obtain⟨a,cap,rfl,Y⟩:=ag;have HA:=hid Y;have HF:=hid hf;clear Y hf;go_enter func25,ntmps25
 go_wp2
 go_loopw [3,4] (λd i wr=>∃(j:Nat) (ms:List D8) (ra:Option Addr) (rc:Nat),j<=es.length/\i=.int .i64 j/\d=.slice ra ms.length rc/\ms.map D8.elem=(es.take j)/\Ud wr w.heap.size (.slice ra ms.length rc) ms/\Below w.heap.size w wr) (λ_ i _=>es.length - (intOf i).toNat)
 case atStart=>
  refine⟨0,[],some ⟨w.heap.size,0,none⟩,0,omz,rfl,rfl,rfl,⟨?_,(λm M=>by cases M),A7t _ _⟩,blA⟩;have:=World.ownsRow_lit (base:=w.heap.size) (e:=40) (size:=2) w #[] 0 spz yAe rfl
  simpa[Ib] using this
 case round=>
  obtain⟨j,ms,ra,rc,hj,rfl,rfl,hmn,P,hb⟩:=hrel;have aQ:=hid hmn;have aW:=hid P;clear hmn P;by_cases H:j<es.length
  ·have ah:ms.length=j:=by
    have h1:=congrArg List.length aQ.out;simp only[A6i,A74] at h1;omega
   obtain⟨b,o,rfl,E,Z⟩:=HA j H;obtain⟨A,av,J,G⟩:=Z.below hb E;have R:=(HF _ (A59 H)).2.1;have dN:=hid (A6l H);obtain⟨x,T⟩:∃x,x=es[j]:=⟨_,rfl⟩
   rw[<-T] at A G dN R;have Q:=G;obtain⟨t,B,rfl,dK⟩:=G;clear dK;have iY:=hid (Q.below (Aa wr (.cells #[] 92)).drew);have r:=A51 E hb.size;have af:Hid (((wr.alloc (.cells #[] 92)).drew).ownsRow wr.heap.size 92 3 (.slice (some ⟨wr.heap.size,0,none⟩) 0 0) 0 []):=by
    have:=World.ownsRow_lit (base:=wr.heap.size) (e:=92) (size:=3) wr #[] 0 (A57 _) yAe rfl
    have l:(wr.alloc (.cells #[] 92)).ownsRow wr.heap.size 92 3 (.slice (some ⟨wr.heap.size,0,none⟩) 0 0) 0 []:=by simpa using this
    exact l
   have dX:=hid (λW (hg:((wr.alloc (.cells #[] 92)).drew).grownBy W (some wr.heap.size))=>(Aa wr (.cells #[] 92)).drew.grown hg spz (λk s=>by cases s;exact A57 _));have jP:=hid (λk s=>(aW.1.lt k s).1);have ai:Hid (∀u:Value,(∀q,u.ownBlock=some q->wr.heap.size<=q)->(Value.slice ra ms.length rc::(Gg ms++Gg [D8.mk x.op x.args u])).Pairwise Aside):=by
    intro u hu;have l:=aW.2.2;rw[A6o] at l ⊢;have U:=λy f=>Ij (n:=wr.heap.size) (λk s=>(aW.lt y f k s).2) hu
    refine⟨λy f=>?_,List.pairwise_append.2 ⟨l.2,A7t _ _,λy f ab hz=>?_⟩⟩
    ·rcases List.mem_append.1 f with f | f
     ·exact l.1 y f
     ·rw[show y=u from by simpa[Gg] using f];exact U _ spz
    ·rw[show ab=u from by simpa[Gg] using hz];exact U y (A56 _ f)
   have ac:ms.length+[D8.mk x.op x.args (.slice none 0 0)].length<=1000000:=by simp only[A62];omega
   have ak:(0:Int)<=(j:Int):=omz
   have an:(j:Int)<(es.length:Int):=omz
   clear T Z Q ah;go_upto_region 5 with fail
   go_region_held3 (λV=>(V.cell? ⟨b,o+j*2,none⟩=some (.int .i64 x.op)/\V.cell? ⟨b,o+j*2+1,none⟩=some (.slice t x.args.length B))) (first | with_reducible assumption | with_reducible exact⟨F8.trans A,F8.trans J⟩ | with_reducible exact⟨F8.trans ((Eg r).trans A),F8.trans ((Eg r).trans J)⟩ | with_reducible exact⟨(Eg F).trans z.1,(Eg F).trans z.2⟩ | skip) (first | (refine Vy rfl _ _ rfl wr.heap.size wr.heap.size x.args rfl af.out t B rfl iY.out R (by show wr.heap.size<=(wr.alloc _).heap.size;simp) ?_;intro u L C aa;obtain⟨K,I,hu⟩:=Aj C;subst hu;have pM:=hid (Joins.ownsRow_le C hb.size);have zx:=hid ((λq hq=>(C.lt q hq).1));have g:=dX.out L aa;have z:(L.cell? ⟨b,o+j*2,none⟩=some (.int .i64 x.op)/\L.cell? ⟨b,o+j*2+1,none⟩=some (.slice t x.args.length B)):=⟨(g.cell (p:=⟨b,o+j*2,none⟩) r).trans A,(g.cell (p:=⟨b,o+j*2+1,none⟩) r).trans J⟩;have F:=A51 r g.size;clear C) | (refine Wu rfl _ _ rfl w.heap.size w.heap.size ra rc ms [(D8.mk x.op x.args (.slice K x.args.length I))] _ 1 rfl rfl ((aW.out.below g).below (Aa _ _)) (λ_=>⟨_,rfl,by exact Ayc (by simp)⟩) (λm M=>by rw[List.mem_singleton.1 M];exact(ownsRow_below pM.out (Aa _ _))) (ai.out _ zx.out) ac (by have:=g.size;have:=hb.size;simp;omega) (by have:=g.size;have:=hb.size;simp;omega) jP.out ?_;intro S O N aY D ae;have gX:Hid (Ud N w.heap.size (.slice S (ms.length+1) O) (ms++[(D8.mk x.op x.args (.slice K x.args.length I))])):=aY;have aj:=hid ((Cc (hb.trans (g.mono hb.size)) _).trans D);have al:(N.cell? ⟨b,o+j*2,none⟩=some (.int .i64 x.op)/\N.cell? ⟨b,o+j*2+1,none⟩=some (.slice t x.args.length B)):=⟨((D.cell (p:=⟨b,o+j*2,none⟩) E).trans (Eg F)).trans z.1,((D.cell (p:=⟨b,o+j*2+1,none⟩) E).trans (Eg F)).trans z.2⟩;clear aY D ae))
   all_goals
    go_wp2
    refine⟨⟨j+1,ms++[D8.mk x.op x.args (.slice K x.args.length I)],S,O,omz,by go_num,spz,?_,by rw[A52];exact gX.out,aj.out⟩,by simp[intOf];omega⟩;rw[dN.out,A6g,aQ.out,A7x];rfl
  ·exact zR
theorem Awi {w:World}{base:Nat}{v:Value}{a:List Aq}(h1:w.ownsRow base 43 4 v a.length (Io a))(b:∀m∈a,MOk w base m):Tn base w v (a.map Aq.net):=by
 have:=(MOk.from (Aq.mk 0 0 [] (.slice none 0 0) v a) ((Jb _ _ _).2 ⟨World.ownsRow_nil _ _ _ _,h1,b⟩)).2
 rwa [Aq.net_eq] at this
theorem Xx (n:Stil.Net)(b a:Value)(w:World)(f:Dh w b n.one.args)(g:E8 w a n.kids)(c:Dt n):
  Calls prog 26 #[.agg #[.int .i64 n.kind, .int .i64 n.one.op,b,a]] w λe i=>e=.returned (.bool (Ar n))/\Below w.heap.size w i:=by
 obtain⟨_,d,j,_⟩:=Ei c;exact Adv n b a w f g (by have:=d.2.1;omega) omz
theorem A4m (i g:Int)(c:List Stil.Dev)(y:Option Addr)(r:Nat)(o:Option Addr)(l:Nat)(a:List Aq)(j f:Int)(d:List Stil.Dev)(u:Option Addr)(s:Nat)(k:Option Addr)(m:Nat)(b:List Aq)(base:Nat)(w:World)
  (h1:MOk w base (Aq.mk i g c (.slice y c.length r) (.slice o a.length l) a)) (M:MOk w base (Aq.mk j f d (.slice u d.length s) (.slice k b.length m) b)) (hp:((Aq.mk i g c (.slice y c.length r) (.slice o a.length l) a).vals++(Aq.mk j f d (.slice u d.length s) (.slice k b.length m) b).vals).Pairwise Aside) (ai:base<=w.heap.size) (hs:Stil.sizes [(Aq.mk i g c (.slice y c.length r) (.slice o a.length l) a).net,(Aq.mk j f d (.slice u d.length s) (.slice k b.length m) b).net]<=999999) (al:Jq (Aq.mk i g c (.slice y c.length r) (.slice o a.length l) a).net) (aj:Jq (Aq.mk j f d (.slice u d.length s) (.slice k b.length m) b).net) (ab:Dt (Aq.mk i g c (.slice y c.length r) (.slice o a.length l) a).net) (T:Dt (Aq.mk j f d (.slice u d.length s) (.slice k b.length m) b).net):
  Calls prog 28 #[.agg #[.int .i64 i, .int .i64 g, .slice y c.length r, .slice o a.length l], .agg #[.int .i64 j, .int .i64 f, .slice u d.length s, .slice k b.length m]] w λe F=>Ajr F base ((Aq.mk i g c (.slice y c.length r) (.slice o a.length l) a).vals++(Aq.mk j f d (.slice u d.length s) (.slice k b.length m) b).vals) w.heap.size (Ko (Aq.mk i g c (.slice y c.length r) (.slice o a.length l) a).net (Aq.mk j f d (.slice u d.length s) (.slice k b.length m) b).net) e/\Below w.heap.size w F:=by
 obtain⟨f1,f2⟩:=MOk.from _ h1;obtain⟨f3,f4⟩:=MOk.from _ M;have Y:Hid (∀W,Below w.heap.size w W->Calls prog 26 #[.agg #[.int .i64 i, .int .i64 g, .slice y c.length r, .slice o a.length l]] W λe F=>e=.returned (.bool (Ar (Aq.mk i g c (.slice y c.length r) (.slice o a.length l) a).net))/\Below W.heap.size W F):=by
  intro W h;have:=Xx (Aq.mk i g c (.slice y c.length r) (.slice o a.length l) a).net _ _ W (f1.at.below h) (f2.at.below h) ab
  have e:=Aq.net_eq (Aq.mk i g c (.slice y c.length r) (.slice o a.length l) a);have nY:(Aq.mk i g c (.slice y c.length r) (.slice o a.length l) a).net.kind=i:=by rw[e]
  have nX:(Aq.mk i g c (.slice y c.length r) (.slice o a.length l) a).net.one.op=g:=by rw[e]
  rw[nY,nX] at this;exact this
 have dO:Hid (∀W,Below w.heap.size w W->Calls prog 26 #[.agg #[.int .i64 j, .int .i64 f, .slice u d.length s, .slice k b.length m]] W λe F=>e=.returned (.bool (Ar (Aq.mk j f d (.slice u d.length s) (.slice k b.length m) b).net))/\Below W.heap.size W F):=by
  intro W h;have:=Xx (Aq.mk j f d (.slice u d.length s) (.slice k b.length m) b).net _ _ W (f3.at.below h) (f4.at.below h) T
  have e:=Aq.net_eq (Aq.mk j f d (.slice u d.length s) (.slice k b.length m) b);have nY:(Aq.mk j f d (.slice u d.length s) (.slice k b.length m) b).net.kind=j:=by rw[e]
  have nX:(Aq.mk j f d (.slice u d.length s) (.slice k b.length m) b).net.one.op=f:=by rw[e]
  rw[nY,nX] at this;exact this
 have ae:=List.pairwise_append.1 hp;have vM:Hid (∀W,Below w.heap.size w W->J7 W base (Aq.mk i g c (.slice y c.length r) (.slice o a.length l) a)):=λW h=>⟨h1.below h,ae.1⟩
 have vK:Hid (∀W,Below w.heap.size w W->J7 W base (Aq.mk j f d (.slice u d.length s) (.slice k b.length m) b)):=λW h=>⟨M.below h,ae.2.1⟩
 have lF:Hid (∀x∈(Aq.mk i g c (.slice y c.length r) (.slice o a.length l) a).vals++(Aq.mk j f d (.slice u d.length s) (.slice k b.length m) b).vals,∀q,x.ownBlock=some q->q<w.heap.size):=by
  intro x hx q K;rcases List.mem_append.1 hx with hx | hx
  ·exact(h1.lt _ x hx q K).2
  ·exact(M.lt _ x hx q K).2
 have J:Hid (Ar (Aq.mk i g c (.slice y c.length r) (.slice o a.length l) a).net=false->Ar (Aq.mk j f d (.slice u d.length s) (.slice k b.length m) b).net=false->∀W,Below w.heap.size w W->Calls prog 47 #[.int .i64 2, .slice (some ⟨W.heap.size,0,none⟩) 2 2] (W.alloc (.cells #[.int .i64 i, .int .i64 g, .slice y c.length r, .slice o a.length l, .int .i64 j, .int .i64 f, .slice u d.length s, .slice k b.length m] 43)) λe F=>Qi F (W.alloc (.cells #[.int .i64 i, .int .i64 g, .slice y c.length r, .slice o a.length l, .int .i64 j, .int .i64 f, .slice u d.length s, .slice k b.length m] 43)).heap.size (E5 2 (Bz 2 [(Aq.mk i g c (.slice y c.length r) (.slice o a.length l) a).net,(Aq.mk j f d (.slice u d.length s) (.slice k b.length m) b).net])) e/\Below (W.alloc (.cells #[.int .i64 i, .int .i64 g, .slice y c.length r, .slice o a.length l, .int .i64 j, .int .i64 f, .slice u d.length s, .slice k b.length m] 43)).heap.size (W.alloc (.cells #[.int .i64 i, .int .i64 g, .slice y c.length r, .slice o a.length l, .int .i64 j, .int .i64 f, .slice u d.length s, .slice k b.length m] 43)) F):=by
  intro I t2 W h;have hr:=L9.pair (h1.below h) (M.below h) hp (A6e ai h.size);have an:=al.resolve_left (by rw[I];exact A7h);have ak:=aj.resolve_left (by rw[t2];exact A7h);have hm:[(Aq.mk i g c (.slice y c.length r) (.slice o a.length l) a).net,(Aq.mk j f d (.slice u d.length s) (.slice k b.length m) b).net].map Au=[(Aq.mk i g c (.slice y c.length r) (.slice o a.length l) a).net,(Aq.mk j f d (.slice u d.length s) (.slice k b.length m) b).net]:=by
   simp only[A6k,A66];rw[Aat an,Aat ak]
  have ax:E8 (W.alloc (.cells #[.int .i64 i, .int .i64 g, .slice y c.length r, .slice o a.length l, .int .i64 j, .int .i64 f, .slice u d.length s, .slice k b.length m] 43)) (.slice (some ⟨W.heap.size,0,none⟩) 2 2) [(Aq.mk i g c (.slice y c.length r) (.slice o a.length l) a).net,(Aq.mk j f d (.slice u d.length s) (.slice k b.length m) b).net]:=(Awi hr.1 hr.2.1).at
  have:=A1u 2 [(Aq.mk i g c (.slice y c.length r) (.slice o a.length l) a).net,(Aq.mk j f d (.slice u d.length s) (.slice k b.length m) b).net] (λx hx av kv au ha hk=>by
   rcases List.mem_cons.1 hx with rfl | hx
   ·exact Am5 _ ab an.2.2 (by simp[Stil.sizes] at hs;omega) av kv au ha hk
   ·rw[List.mem_singleton.1 hx] at ha hk ⊢
    exact Am5 _ T ak.2.2 (by simp[Stil.sizes] at hs;omega) av kv au ha hk) _ _ ax spz (by rw[hm];omega)
  rw[hm] at this;exact this
 obtain⟨S,hS⟩:∃S,S=Ko (Aq.mk i g c (.slice y c.length r) (.slice o a.length l) a).net (Aq.mk j f d (.slice u d.length s) (.slice k b.length m) b).net:=⟨_,rfl⟩
 have G:Hid (S=if Ar (Aq.mk i g c (.slice y c.length r) (.slice o a.length l) a).net then(Aq.mk j f d (.slice u d.length s) (.slice k b.length m) b).net else if Ar (Aq.mk j f d (.slice u d.length s) (.slice k b.length m) b).net then(Aq.mk i g c (.slice y c.length r) (.slice o a.length l) a).net else E5 2 (Bz 2 [(Aq.mk i g c (.slice y c.length r) (.slice o a.length l) a).net,(Aq.mk j f d (.slice u d.length s) (.slice k b.length m) b).net])):=hS;rw[<-hS];obtain⟨I,ar⟩:∃t,t=Ar (Aq.mk i g c (.slice y c.length r) (.slice o a.length l) a).net:=⟨_,rfl⟩
 obtain⟨t2,ap⟩:∃t,t=Ar (Aq.mk j f d (.slice u d.length s) (.slice k b.length m) b).net:=⟨_,rfl⟩
 rw[<-ar] at Y G J;rw[<-ap] at dO G J;obtain⟨L,uK⟩:∃L,L=(Aq.mk i g c (.slice y c.length r) (.slice o a.length l) a).vals++(Aq.mk j f d (.slice u d.length s) (.slice k b.length m) b).vals:=⟨_,rfl⟩
 have fC:=hid uK;rw[<-uK] at lF ⊢;obtain⟨X1,ag⟩:∃ah,ah=(Aq.mk i g c (.slice y c.length r) (.slice o a.length l) a).net:=⟨_,rfl⟩
 obtain⟨X2,af⟩:∃ah,ah=(Aq.mk j f d (.slice u d.length s) (.slice k b.length m) b).net:=⟨_,rfl⟩
 have yw:=hid ag;have yu:=hid af;rw[<-ag,<-af] at J G;clear hS ar ap uK ag af f1 f2 f3 f4 h1 M hp ae hs ab T al aj;cases I
 ·cases t2
  ·have H:S=E5 2 (Bz 2 [X1,X2]):=by rw[G.out];rfl
   rw[<-H] at J;clear G H vM vK;go_enter func28,ntmps28;go_upto_region 3 with(go_at_call 26;refine(Y _ blA).mono ?_;rintro e z ⟨rfl,hb1⟩;obtain⟨A,hf⟩:=D7 hb1;have V:w.heap.size<z.heap.size:=A51 yAd hb1.size;have aa:w.heap.size+1<z.heap.size:=A51 spz hb1.size;have B:w.heap.size+1+1<z.heap.size:=A51 spz hb1.size;have iK:Below w.heap.size w z:=blA)
   go_upto_region 5 with(go_at_call 26;refine(dO _ blA).mono ?_;rintro e D ⟨rfl,hb2⟩;obtain⟨E,T⟩:=D7 hb2;have ay:=A51 V hb2.size;have aw:=A51 aa hb2.size;have C:=A51 B hb2.size;have hbB:Below w.heap.size w D:=yDa)
   go_wp2_with (go_at_call 47;refine(J (by trivial) (by trivial) D hbB).mono ?_;rintro e w3 ⟨⟨mk,aK,aG,s0,t0,s1,I,Z,rfl,ac,ao⟩,hb3⟩;obtain⟨X,aA⟩:=D7 hb3;have az:=A51 (A51 C spz) hb3.size;have aU:=hid (ac.le (A6e ai (A6e hbB.size spz)));have N:=hid ao;have HW:Hid (∀x∈(Aq.mk mk aK aG (.slice s0 aG.length t0) (.slice s1 Z.length I) Z).vals,x∈L\/∀q,x.ownBlock=some q->D.heap.size<=q):=(λx hx=>.inr (λq K=>A6e spz (ac.1.lt _ x hx q K).1));clear ac ao)
   have U:w3.cell? ⟨w.heap.size+1+1,0,none⟩=some (.int .i64 0):=by rw[X _ _ (A51 C spz),Eg C,E _ _ B,A _ _ spz];simp[go_sem]
   have R:w3.cell? ⟨w.heap.size+1+1,1,none⟩=some (.int .i64 0):=by rw[X _ _ (A51 C spz),Eg C,E _ _ B,A _ _ spz];simp[go_sem]
   have O:w3.cell? ⟨w.heap.size+1+1,2,none⟩=some (.slice none 0 0):=by rw[X _ _ (A51 C spz),Eg C,E _ _ B,A _ _ spz];simp[go_sem]
   have Q:w3.cell? ⟨w.heap.size+1+1,3,none⟩=some (.slice none 0 0):=by rw[X _ _ (A51 C spz),Eg C,E _ _ B,A _ _ spz];simp[go_sem]
   refine bodyPost_ret (v:=.agg #[.int .i64 mk, .int .i64 aK, .slice s0 aG.length t0, .slice s1 Z.length I]) (by simp[results,results28,go_sem,U,R,O,Q]) rfl ⟨⟨mk,aK,aG,s0,t0,s1,I,Z,rfl,?_,N.out,λx hx=>(HW x hx).imp id (λh q K=>by have:=h q K;omega)⟩,?_⟩
   ·exact zw0
   ·exact zy0
  ·have H:S=X1:=by rw[G.out];rfl
   have N:Hid ((Aq.mk i g c (.slice y c.length r) (.slice o a.length l) a).net=S):=by show _=_;rw[H,yw.out]
   have P:Hid (∀x∈(Aq.mk i g c (.slice y c.length r) (.slice o a.length l) a).vals,x∈L):=λx hx=>by rw[fC.out];exact A6d _ hx
   clear G H J vK;go_enter func28,ntmps28;go_upto_region 3 with(go_at_call 26;refine(Y _ blA).mono ?_;rintro e z ⟨rfl,hb1⟩;obtain⟨A,hf⟩:=D7 hb1;have V:w.heap.size<z.heap.size:=A51 yAd hb1.size;have aa:w.heap.size+1<z.heap.size:=A51 spz hb1.size;have B:w.heap.size+1+1<z.heap.size:=A51 spz hb1.size;have iK:Below w.heap.size w z:=blA)
   go_wp2_with (go_at_call 26;refine(dO _ blA).mono ?_;rintro e D ⟨rfl,hb2⟩;obtain⟨E,T⟩:=D7 hb2;have ay:=A51 V hb2.size;have aw:=A51 aa hb2.size;have C:=A51 B hb2.size;have hbB:Below w.heap.size w D:=yDa)
   have U:D.cell? ⟨w.heap.size+1+1,0,none⟩=some (.int .i64 0):=by rw[E _ _ B,A _ _ spz];simp[go_sem]
   have R:D.cell? ⟨w.heap.size+1+1,1,none⟩=some (.int .i64 0):=by rw[E _ _ B,A _ _ spz];simp[go_sem]
   have O:D.cell? ⟨w.heap.size+1+1,2,none⟩=some (.slice none 0 0):=by rw[E _ _ B,A _ _ spz];simp[go_sem]
   have Q:D.cell? ⟨w.heap.size+1+1,3,none⟩=some (.slice none 0 0):=by rw[E _ _ B,A _ _ spz];simp[go_sem]
   refine bodyPost_ret (v:=.agg #[.int .i64 i, .int .i64 g, .slice y c.length r, .slice o a.length l]) (by simp[results,results28,go_sem,U,R,O,Q]) rfl ⟨⟨i,g,c,y,r,o,l,a,rfl,?_,N.out,λx hx=>.inl (P x hx)⟩,?_⟩
   ·exact J7.setO4 (vM D hbB) (λx hx e=>by have:=lF x (P x hx) _ e;omega)
   ·clear iK hb1 hb2
    exact blA
 ·have H:S=X2:=by rw[G.out];rfl
  have N:Hid ((Aq.mk j f d (.slice u d.length s) (.slice k b.length m) b).net=S):=by show _=_;rw[H,yu.out]
  have P:Hid (∀x∈(Aq.mk j f d (.slice u d.length s) (.slice k b.length m) b).vals,x∈L):=λx hx=>by rw[fC.out];exact A6a _ hx
  clear G H J vM dO;go_enter func28,ntmps28
  go_wp2_with (go_at_call 26;refine(Y _ blA).mono ?_;rintro e z ⟨rfl,hb1⟩;obtain⟨A,hf⟩:=D7 hb1;have V:w.heap.size<z.heap.size:=A51 yAd hb1.size;have aa:w.heap.size+1<z.heap.size:=A51 spz hb1.size;have B:w.heap.size+1+1<z.heap.size:=A51 spz hb1.size;have iK:Below w.heap.size w z:=blA)
  have U:z.cell? ⟨w.heap.size+1+1,0,none⟩=some (.int .i64 0):=by rw[A _ _ spz];simp[go_sem]
  have R:z.cell? ⟨w.heap.size+1+1,1,none⟩=some (.int .i64 0):=by rw[A _ _ spz];simp[go_sem]
  have O:z.cell? ⟨w.heap.size+1+1,2,none⟩=some (.slice none 0 0):=by rw[A _ _ spz];simp[go_sem]
  have Q:z.cell? ⟨w.heap.size+1+1,3,none⟩=some (.slice none 0 0):=by rw[A _ _ spz];simp[go_sem]
  refine bodyPost_ret (v:=.agg #[.int .i64 j, .int .i64 f, .slice u d.length s, .slice k b.length m]) (by simp[results,results28,go_sem,U,R,O,Q]) rfl ⟨⟨j,f,d,u,s,k,m,b,rfl,?_,N.out,λx hx=>.inl (P x hx)⟩,?_⟩
  ·exact J7.setO4 (vK z iK) (λx hx e=>by have:=lF x (P x hx) _ e;omega)
  ·clear hb1
   exact blA
end Go.Proofs.YtnpfcnolmkanfaaGreatDoor
