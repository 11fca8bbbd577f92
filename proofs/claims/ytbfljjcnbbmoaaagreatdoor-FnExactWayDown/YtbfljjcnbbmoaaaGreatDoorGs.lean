import Derived.Test.YtbfljjcnbbmoaaaGreatDoorY7g
import Derived.Test.YtbfljjcnbbmoaaaGreatDoorGO
import Derived.Test.YtbfljjcnbbmoaaaGreatDoorGp
import Derived.Test.YtbfljjcnbbmoaaaGreatDoorGr
set_option maxHeartbeats 4000000
set_option maxRecDepth 100000
namespace Go.Proofs.YtbfljjcnbbmoaaaGreatDoor
open Stil
open Go.RowKit Go.Sort Go.BigFrame
variable {B base:Nat}{W:World}{u0 u1:Value}
def Ah8 (w:World)(base:Nat)(vs:List Value)(lo:Nat)(n:Stil.Net)(e:Ending):Prop:=∃(k op:Int) (ds:List Stil.Dev) (a1:Option Addr) (c1:Nat) (a2:Option Addr) (c2:Nat) (ms:List Ah),e=.returned (.agg #[.int .i64 k, .int .i64 op, .slice a1 ds.length c1, .slice a2 ms.length c2])/\
 Ik w base ⟨k,op,ds, .slice a1 ds.length c1, .slice a2 ms.length c2,ms⟩/\(Ah.mk k op ds (.slice a1 ds.length c1) (.slice a2 ms.length c2) ms).net=n/\∀x∈(Ah.mk k op ds (.slice a1 ds.length c1) (.slice a2 ms.length c2) ms).vals,x∈vs\/∀q,x.ownBlock=some q->lo<=q
theorem Ajm (k:Int)(base:Nat)(ms0:List Ah)(a:Option Addr)(cap:Nat)(w:World)(hrow:J4 w base (.slice a ms0.length cap) ms0)(hl:Stil.sizes (ms0.map Ah.net)<=999999)(hbase:base<=w.heap.size):
  Calls Tryz.prog 99 #[.int .i64 k, .slice a ms0.length cap] w λe w'=>Ah8 w' base (Ew ms0) w.heap.size (Fb k (Cf k (ms0.map Ah.net))) e/\Below w.heap.size w w':=by
 have HF:=hid (λW B h h1 h2=>Af5 k B base ms0 a cap W h1 h2 (hrow.below h) hl (A4k hbase h.size));obtain⟨F,hF⟩:∃F,F=Cf k (ms0.map Ah.net):=⟨_,rfl⟩
 rw[<-hF] at HF ⊢;have jO:=hid (λx hx q hq=>(hrow.lt x (A4c _ hx) q hq).2);clear hrow hl hF;go_enter Tryz.func99,Tryz.ntmps99;go_upto_region 2 with(go_at_call 119;refine(HF _ _ blA (by simp[go_sem]) (by simp;omega)).mono ?_;rintro e w1 ⟨ra,rc,ms,rfl,hmn,hmr,hb1,hsub,hvl⟩;have aH:=hid hmn;have aP:=hid hmr;have rQ:Hid (∀x∈(Value.slice ra ms.length rc)::Ew ms,x.ownBlock≠some (w.heap.size+1)):=(by intro x hx e;rcases List.mem_cons.1 hx with rfl | hx;(have:=hvl _ e;simp at this;omega);(have:=jO x (hsub.subset hx) _ e;omega));have eF:Hid (∀x∈(Value.slice ra ms.length rc)::Ew ms,x∈Ew ms0\/∀q,x.ownBlock=some q->w.heap.size<=q):=(by intro x hx;rcases List.mem_cons.1 hx with rfl | hx;(exact .inr (λq hq=>A4k (by simp;omega) (hvl q hq)));(exact .inl (hsub.subset hx)));clear hmn hmr hsub hvl)
 obtain⟨hc,hf⟩:=Dq hb1;have hzb:w.heap.size+1<w1.heap.size:=A37 spz hb1.size;have kd:w1.cell? ⟨w.heap.size,0,none⟩=some (.int .i64 k):=by rw[hc _ _ (by simp;omega)];simp[go_sem]
 have z0:w1.cell? ⟨w.heap.size+1,0,none⟩=some (.int .i64 0):=by rw[hc _ _ spz];simp[go_sem]
 have z1:w1.cell? ⟨w.heap.size+1,1,none⟩=some (.int .i64 0):=by rw[hc _ _ spz];simp[go_sem]
 have z2:w1.cell? ⟨w.heap.size+1,2,none⟩=some (.slice none 0 0):=by rw[hc _ _ spz];simp[go_sem]
 have z3:w1.cell? ⟨w.heap.size+1,3,none⟩=some (.slice none 0 0):=by rw[hc _ _ spz];simp[go_sem]
 have f0:w1.frozen? ⟨w.heap.size+1,0,none⟩=false:=by rw[hf _ _ spz];simp[go_sem]
 have f1:w1.frozen? ⟨w.heap.size+1,1,none⟩=false:=by rw[hf _ _ spz];simp[go_sem]
 have f2:w1.frozen? ⟨w.heap.size+1,2,none⟩=false:=by rw[hf _ _ spz];simp[go_sem]
 have f3:w1.frozen? ⟨w.heap.size+1,3,none⟩=false:=by rw[hf _ _ spz];simp[go_sem]
 have hB1:Below w.heap.size w w1:=blA;clear hc hf hb1 HF jO;by_cases h1:ms.length=1
 ·obtain⟨m,rfl⟩:=List.length_eq_one_iff.1 h1
  have hmo:=aP.one 0 spz;simp only[List.getElem_cons_zero] at hmo;obtain⟨g,c,hv,_,hlt2,_,hcell⟩:=Az aP.1 spz;obtain⟨a1,a2,a3,a4⟩:=Jj [m] 0 spz;have y0:=hcell _ _ a1;have y1:=hcell _ _ a2;have y2:=hcell _ _ a3;have y3:=hcell _ _ a4;simp only[List.getElem_cons_zero,Nat.zero_mul,A4h] at y0 y1 y2 y3;have hok:=(H5 _ _ _).1 hmo.1;obtain⟨d1,d2,hd⟩:=Af hok.1;obtain⟨d3,d4,hd2⟩:=Af hok.2.1;simp only[Value.slice.injEq] at hv;obtain⟨rfl,_,rfl⟩:=hv;have fM:Hid (Fb k F=m.net):=by show _=_;rw[<-aH.out];rfl
  have kM:=hid (λx hx=>rQ x (A4c _ (by rw[Je];exact hx)));have vS:=hid (λx hx=>eF x (A4c _ (by rw[Je];exact hx)));clear rQ aH eF;obtain⟨mk,aG,aF,uq,uo,aC⟩:=m;simp only at hd hd2 y0 y1 y2 y3;subst hd;subst hd2;have aJ:=hid hmo;clear hmo hok hcell aP;simp only[A48]
  go_wp2
  refine bodyPost_ret (v:=.agg #[.int .i64 mk, .int .i64 aG, .slice d1 aF.length d2, .slice d3 aC.length d4]) (by simp[results,Tryz.results99,go_sem,z0,z1,z2,z3]) rfl ⟨⟨mk,aG,aF,d1,d2,d3,d4,aC,rfl,?_,fM.symm,vS.out⟩,blA⟩;exact Ik.setO4 aJ kM.out
 ·have fM:Hid (Fb k F=⟨k,⟨0,[]⟩,ms.map Ah.net⟩):=by
   show _=_
   rw[<-aH.out];unfold Fb;rw[dif_neg (by simpa using h1)]
  have hmo:=aP.net k 0 [] (World.ownsRow_nil _ _ _ _) (λx _=>Nl x);have aJ:=hid hmo;have kM:Hid (∀x∈(Ah.mk k 0 [] (.slice none 0 0) (.slice ra ms.length rc) ms).vals,x.ownBlock≠some (w.heap.size+1)):=by
   intro x hx;rw[Ah.vals_eq] at hx;rcases List.mem_cons.1 hx with rfl | hx
   ·intro e;cases e
   ·exact rQ x hx
  have vS:Hid (∀x∈(Ah.mk k 0 [] (.slice none 0 0) (.slice ra ms.length rc) ms).vals,x∈Ew ms0\/∀q,x.ownBlock=some q->w.heap.size<=q):=by
   intro x hx;rw[Ah.vals_eq] at hx;rcases List.mem_cons.1 hx with rfl | hx
   ·exact .inr (λq hq=>by cases hq)
   ·exact eF x hx
  clear eF;have e1':((ms.length:Int)==1)=false:=by rw[A5a];omega
  have bf:¬((ms.length:Int)=1):=omz
  clear hmo aP rQ aH
  go_wp2
  refine bodyPost_ret (v:=.agg #[.int .i64 k, .int .i64 0, .slice none 0 0, .slice ra ms.length rc]) (by simp[results,Tryz.results99,go_sem,z0,z1,z2,z3]) rfl ⟨⟨k,0,[],none,0,ra,rc,ms,rfl,?_,by rw[Ah.net_eq,fM.out],vS.out⟩,blA⟩;exact Ik.setO4 aJ kM.out
theorem Ej {ob:Obj}{c p:Nat}(h:c<W.heap.size):(W.alloc ob).cell? ⟨c,p,none⟩=W.cell? ⟨c,p,none⟩:=(Aa W ob).cell (p:=⟨c,p,none⟩) h
theorem J4.pair {w:World}{m1 m2:Ah}(h1:MOk w base m1)(h2:MOk w base m2)(hp:(m1.vals++m2.vals).Pairwise Aside)(hb:base<=w.heap.size):J4 (w.alloc (.cells #[.int .i64 m1.kind, .int .i64 m1.op,m1.av,m1.kv, .int .i64 m2.kind, .int .i64 m2.op,m2.av,m2.kv] 52)) base (.slice (some ⟨w.heap.size,0,none⟩) 2 2) [m1,m2]:=by
 have hv:Ew [m1,m2]=m1.vals++m2.vals:=by simp[Ew]
 refine⟨?_,λx hx=>?_,?_⟩
 ·exact World.ownsRow_lit w #[.int .i64 m1.kind, .int .i64 m1.op,m1.av,m1.kv, .int .i64 m2.kind, .int .i64 m2.op,m2.av,m2.kv] 2 hb (by unfold maxLen;omega) rfl
 ·rcases List.mem_cons.1 hx with rfl | hx
  ·exact h1.below (Aa _ _)
  ·rw[List.mem_singleton.1 hx];exact h2.below (Aa _ _)
 ·rw[hv,A4u]
  refine⟨λy hy=>(Ef (n:=w.heap.size) (λk hk=>?_) (λk hk=>?_)).symm,hp⟩
  ·rcases List.mem_append.1 hy with hy | hy
   ·exact(h1.lt m1 y hy k hk).2
   ·exact(h2.lt m2 y hy k hk).2
  ·have e:w.heap.size=k:=by simpa[Value.ownBlock] using hk
   omega
theorem zA0 {p:Prop}(h:p:=by
 refine Ik.setO4 aJ (λx hx e=>?_)
 rcases HW x hx with h | h
 ·have:=jO x h _ e;omega
 ·have:=h _ e;omega):p:=h
theorem zB0 {p:Prop}(h:p:=by
 have hbC:=(Bq hbB _).trans (hb3.mono (by have:=hbB.size;simp;omega))
 clear iI hbB hb1 hb2 hb3
 exact blA):p:=h
theorem Ajl (k1 o1:Int)(d1:List Stil.Dev)(a1:Option Addr)(c1:Nat)(aO:Option Addr)(e1:Nat)(n1:List Ah)(k2 o2:Int)(d2:List Stil.Dev)(a2:Option Addr)(c2:Nat)(aI:Option Addr)(e2:Nat)(n2:List Ah)(base:Nat)(w:World)
  (h1:MOk w base (Ah.mk k1 o1 d1 (.slice a1 d1.length c1) (.slice aO n1.length e1) n1)) (h2:MOk w base (Ah.mk k2 o2 d2 (.slice a2 d2.length c2) (.slice aI n2.length e2) n2)) (hp:((Ah.mk k1 o1 d1 (.slice a1 d1.length c1) (.slice aO n1.length e1) n1).vals++(Ah.mk k2 o2 d2 (.slice a2 d2.length c2) (.slice aI n2.length e2) n2).vals).Pairwise Aside) (hbase:base<=w.heap.size) (hs:Stil.sizes [(Ah.mk k1 o1 d1 (.slice a1 d1.length c1) (.slice aO n1.length e1) n1).net,(Ah.mk k2 o2 d2 (.slice a2 d2.length c2) (.slice aI n2.length e2) n2).net]<=999999) (hf1:Dc (Ah.mk k1 o1 d1 (.slice a1 d1.length c1) (.slice aO n1.length e1) n1).net) (hf2:Dc (Ah.mk k2 o2 d2 (.slice a2 d2.length c2) (.slice aI n2.length e2) n2).net):
  Calls Tryz.prog 100 #[.agg #[.int .i64 k1, .int .i64 o1, .slice a1 d1.length c1, .slice aO n1.length e1], .agg #[.int .i64 k2, .int .i64 o2, .slice a2 d2.length c2, .slice aI n2.length e2]] w λe w'=>Ah8 w' base ((Ah.mk k1 o1 d1 (.slice a1 d1.length c1) (.slice aO n1.length e1) n1).vals++(Ah.mk k2 o2 d2 (.slice a2 d2.length c2) (.slice aI n2.length e2) n2).vals) w.heap.size (Jq (Ah.mk k1 o1 d1 (.slice a1 d1.length c1) (.slice aO n1.length e1) n1).net (Ah.mk k2 o2 d2 (.slice a2 d2.length c2) (.slice aI n2.length e2) n2).net) e/\Below w.heap.size w w':=by
 obtain⟨f1,f2⟩:=MOk.from _ h1;obtain⟨f3,f4⟩:=MOk.from _ h2;have gY:Hid (∀W,Below w.heap.size w W->Calls Tryz.prog 73 #[.agg #[.int .i64 k1, .int .i64 o1, .slice a1 d1.length c1, .slice aO n1.length e1]] W λe w'=>e=.returned (.bool (Aq (Ah.mk k1 o1 d1 (.slice a1 d1.length c1) (.slice aO n1.length e1) n1).net))/\Below W.heap.size W w'):=by
  intro W h;have:=Si (Ah.mk k1 o1 d1 (.slice a1 d1.length c1) (.slice aO n1.length e1) n1).net _ _ W (f1.at.below h) (f2.at.below h) hf1
  have e:=Ah.net_eq (Ah.mk k1 o1 d1 (.slice a1 d1.length c1) (.slice aO n1.length e1) n1);have oI:(Ah.mk k1 o1 d1 (.slice a1 d1.length c1) (.slice aO n1.length e1) n1).net.kind=k1:=by rw[e]
  have oH:(Ah.mk k1 o1 d1 (.slice a1 d1.length c1) (.slice aO n1.length e1) n1).net.one.op=o1:=by rw[e]
  rw[oI,oH] at this;exact this
 have fF:Hid (∀W,Below w.heap.size w W->Calls Tryz.prog 73 #[.agg #[.int .i64 k2, .int .i64 o2, .slice a2 d2.length c2, .slice aI n2.length e2]] W λe w'=>e=.returned (.bool (Aq (Ah.mk k2 o2 d2 (.slice a2 d2.length c2) (.slice aI n2.length e2) n2).net))/\Below W.heap.size W w'):=by
  intro W h;have:=Si (Ah.mk k2 o2 d2 (.slice a2 d2.length c2) (.slice aI n2.length e2) n2).net _ _ W (f3.at.below h) (f4.at.below h) hf2
  have e:=Ah.net_eq (Ah.mk k2 o2 d2 (.slice a2 d2.length c2) (.slice aI n2.length e2) n2);have oI:(Ah.mk k2 o2 d2 (.slice a2 d2.length c2) (.slice aI n2.length e2) n2).net.kind=k2:=by rw[e]
  have oH:(Ah.mk k2 o2 d2 (.slice a2 d2.length c2) (.slice aI n2.length e2) n2).net.one.op=o2:=by rw[e]
  rw[oI,oH] at this;exact this
 have hp1:=List.pairwise_append.1 hp;have vX:Hid (∀W,Below w.heap.size w W->Ik W base (Ah.mk k1 o1 d1 (.slice a1 d1.length c1) (.slice aO n1.length e1) n1)):=λW h=>⟨h1.below h,hp1.1⟩
 have rP:Hid (∀W,Below w.heap.size w W->Ik W base (Ah.mk k2 o2 d2 (.slice a2 d2.length c2) (.slice aI n2.length e2) n2)):=λW h=>⟨h2.below h,hp1.2.1⟩
 have jO:Hid (∀x∈(Ah.mk k1 o1 d1 (.slice a1 d1.length c1) (.slice aO n1.length e1) n1).vals++(Ah.mk k2 o2 d2 (.slice a2 d2.length c2) (.slice aI n2.length e2) n2).vals,∀q,x.ownBlock=some q->q<w.heap.size):=by
  intro x hx q hq;rcases List.mem_append.1 hx with hx | hx
  ·exact(h1.lt _ x hx q hq).2
  ·exact(h2.lt _ x hx q hq).2
 have lI:Hid (∀W,Below w.heap.size w W->Calls Tryz.prog 99 #[.int .i64 2, .slice (some ⟨W.heap.size,0,none⟩) 2 2] (W.alloc (.cells #[.int .i64 k1, .int .i64 o1, .slice a1 d1.length c1, .slice aO n1.length e1, .int .i64 k2, .int .i64 o2, .slice a2 d2.length c2, .slice aI n2.length e2] 52)) λe w'=>Ah8 w' base ((Ah.mk k1 o1 d1 (.slice a1 d1.length c1) (.slice aO n1.length e1) n1).vals++(Ah.mk k2 o2 d2 (.slice a2 d2.length c2) (.slice aI n2.length e2) n2).vals) (W.alloc (.cells #[.int .i64 k1, .int .i64 o1, .slice a1 d1.length c1, .slice aO n1.length e1, .int .i64 k2, .int .i64 o2, .slice a2 d2.length c2, .slice aI n2.length e2] 52)).heap.size (Fb 2 (Cf 2 [(Ah.mk k1 o1 d1 (.slice a1 d1.length c1) (.slice aO n1.length e1) n1).net,(Ah.mk k2 o2 d2 (.slice a2 d2.length c2) (.slice aI n2.length e2) n2).net])) e/\Below (W.alloc (.cells #[.int .i64 k1, .int .i64 o1, .slice a1 d1.length c1, .slice aO n1.length e1, .int .i64 k2, .int .i64 o2, .slice a2 d2.length c2, .slice aI n2.length e2] 52)).heap.size (W.alloc (.cells #[.int .i64 k1, .int .i64 o1, .slice a1 d1.length c1, .slice aO n1.length e1, .int .i64 k2, .int .i64 o2, .slice a2 d2.length c2, .slice aI n2.length e2] 52)) w'):=by
  intro W h;have hr:=J4.pair (h1.below h) (h2.below h) hp (A4k hbase h.size);have:=Ajm 2 base [(Ah.mk k1 o1 d1 (.slice a1 d1.length c1) (.slice aO n1.length e1) n1),(Ah.mk k2 o2 d2 (.slice a2 d2.length c2) (.slice aI n2.length e2) n2)] (some ⟨W.heap.size,0,none⟩) 2 _ hr hs (A4k hbase (A4k h.size spz))
  have hv:Ew [(Ah.mk k1 o1 d1 (.slice a1 d1.length c1) (.slice aO n1.length e1) n1),(Ah.mk k2 o2 d2 (.slice a2 d2.length c2) (.slice aI n2.length e2) n2)]=(Ah.mk k1 o1 d1 (.slice a1 d1.length c1) (.slice aO n1.length e1) n1).vals++(Ah.mk k2 o2 d2 (.slice a2 d2.length c2) (.slice aI n2.length e2) n2).vals:=by simp[Ew]
  rw[hv] at this;exact this
 obtain⟨S,hS⟩:∃S,S=Jq (Ah.mk k1 o1 d1 (.slice a1 d1.length c1) (.slice aO n1.length e1) n1).net (Ah.mk k2 o2 d2 (.slice a2 d2.length c2) (.slice aI n2.length e2) n2).net:=⟨_,rfl⟩
 have HS:Hid (S=if Aq (Ah.mk k1 o1 d1 (.slice a1 d1.length c1) (.slice aO n1.length e1) n1).net then(Ah.mk k2 o2 d2 (.slice a2 d2.length c2) (.slice aI n2.length e2) n2).net else if Aq (Ah.mk k2 o2 d2 (.slice a2 d2.length c2) (.slice aI n2.length e2) n2).net then(Ah.mk k1 o1 d1 (.slice a1 d1.length c1) (.slice aO n1.length e1) n1).net else Fb 2 (Cf 2 [(Ah.mk k1 o1 d1 (.slice a1 d1.length c1) (.slice aO n1.length e1) n1).net,(Ah.mk k2 o2 d2 (.slice a2 d2.length c2) (.slice aI n2.length e2) n2).net])):=hS;rw[<-hS];obtain⟨t1,ht1⟩:∃t,t=Aq (Ah.mk k1 o1 d1 (.slice a1 d1.length c1) (.slice aO n1.length e1) n1).net:=⟨_,rfl⟩
 obtain⟨t2,ht2⟩:∃t,t=Aq (Ah.mk k2 o2 d2 (.slice a2 d2.length c2) (.slice aI n2.length e2) n2).net:=⟨_,rfl⟩
 rw[<-ht1] at gY HS;rw[<-ht2] at fF HS;obtain⟨VS,uU⟩:∃VS,VS=(Ah.mk k1 o1 d1 (.slice a1 d1.length c1) (.slice aO n1.length e1) n1).vals++(Ah.mk k2 o2 d2 (.slice a2 d2.length c2) (.slice aI n2.length e2) n2).vals:=⟨_,rfl⟩
 have eF:=hid uU;rw[<-uU] at jO lI ⊢;obtain⟨X1,hX1⟩:∃X,X=(Ah.mk k1 o1 d1 (.slice a1 d1.length c1) (.slice aO n1.length e1) n1).net:=⟨_,rfl⟩
 obtain⟨X2,hX2⟩:∃X,X=(Ah.mk k2 o2 d2 (.slice a2 d2.length c2) (.slice aI n2.length e2) n2).net:=⟨_,rfl⟩
 have HX1:=hid hX1;have HX2:=hid hX2;rw[<-hX1,<-hX2] at lI HS;clear hS ht1 ht2 uU hX1 hX2 f1 f2 f3 f4 h1 h2 hp hp1 hs hf1 hf2;cases t1
 ·cases t2
  ·have jJ:S=Fb 2 (Cf 2 [X1,X2]):=by rw[HS.out];rfl
   rw[<-jJ] at lI;clear HS jJ vX rP;go_enter Tryz.func100,Tryz.ntmps100;go_upto_region 3 with(go_at_call 73;refine(gY _ blA).mono ?_;rintro e w1 ⟨rfl,hb1⟩;obtain⟨hc,hf⟩:=Dq hb1;have hza:w.heap.size<w1.heap.size:=A37 (by simp;omega) hb1.size;have hzb:w.heap.size+1<w1.heap.size:=A37 spz hb1.size;have hzc:w.heap.size+1+1<w1.heap.size:=A37 spz hb1.size;have iI:Below w.heap.size w w1:=blA)
   go_upto_region 5 with(go_at_call 73;refine(fF _ blA).mono ?_;rintro e w2 ⟨rfl,hb2⟩;obtain⟨hc2,hf2⟩:=Dq hb2;have hzd:=A37 hza hb2.size;have hze:=A37 hzb hb2.size;have dU:=A37 hzc hb2.size;have hbB:Below w.heap.size w w2:=(by exact iI.trans (hb2.mono iI.size)))
   go_wp2_with (go_at_call 99;refine(lI w2 hbB).mono ?_;rintro e w3 ⟨⟨mk,aG,aF,s0,t0,s1,t1,aC,rfl,hmo,hmn,hvs⟩,hb3⟩;obtain⟨hc3,hf3⟩:=Dq hb3;have hzg:=A37 (A37 dU spz) hb3.size;have aJ:=hid hmo;have aH:=hid hmn;have HW:Hid (∀x∈(Ah.mk mk aG aF (.slice s0 aF.length t0) (.slice s1 aC.length t1) aC).vals,x∈VS\/∀q,x.ownBlock=some q->w2.heap.size<=q):=(λx hx=>(hvs x hx).imp id (λh q hq=>A4k spz (h q hq)));clear hmo hmn hvs)
   have b0:w3.cell? ⟨w.heap.size+1+1,0,none⟩=some (.int .i64 0):=by rw[hc3 _ _ (A37 dU spz),Ej dU,hc2 _ _ hzc,hc _ _ spz];simp[go_sem]
   have b1:w3.cell? ⟨w.heap.size+1+1,1,none⟩=some (.int .i64 0):=by rw[hc3 _ _ (A37 dU spz),Ej dU,hc2 _ _ hzc,hc _ _ spz];simp[go_sem]
   have b2:w3.cell? ⟨w.heap.size+1+1,2,none⟩=some (.slice none 0 0):=by rw[hc3 _ _ (A37 dU spz),Ej dU,hc2 _ _ hzc,hc _ _ spz];simp[go_sem]
   have b3:w3.cell? ⟨w.heap.size+1+1,3,none⟩=some (.slice none 0 0):=by rw[hc3 _ _ (A37 dU spz),Ej dU,hc2 _ _ hzc,hc _ _ spz];simp[go_sem]
   refine bodyPost_ret (v:=.agg #[.int .i64 mk, .int .i64 aG, .slice s0 aF.length t0, .slice s1 aC.length t1]) (by simp[results,Tryz.results100,go_sem,b0,b1,b2,b3]) rfl ⟨⟨mk,aG,aF,s0,t0,s1,t1,aC,rfl,?_,aH.out,λx hx=>(HW x hx).imp id (λh q hq=>by have:=h q hq;omega)⟩,?_⟩
   ·exact zA0
   ·exact zB0
  ·have jJ:S=X1:=by rw[HS.out];rfl
   have aH:Hid ((Ah.mk k1 o1 d1 (.slice a1 d1.length c1) (.slice aO n1.length e1) n1).net=S):=by show _=_;rw[jJ,HX1.out]
   have eG:Hid (∀x∈(Ah.mk k1 o1 d1 (.slice a1 d1.length c1) (.slice aO n1.length e1) n1).vals,x∈VS):=λx hx=>by rw[eF.out];exact A4j _ hx
   clear HS jJ lI rP;go_enter Tryz.func100,Tryz.ntmps100;go_upto_region 3 with(go_at_call 73;refine(gY _ blA).mono ?_;rintro e w1 ⟨rfl,hb1⟩;obtain⟨hc,hf⟩:=Dq hb1;have hza:w.heap.size<w1.heap.size:=A37 (by simp;omega) hb1.size;have hzb:w.heap.size+1<w1.heap.size:=A37 spz hb1.size;have hzc:w.heap.size+1+1<w1.heap.size:=A37 spz hb1.size;have iI:Below w.heap.size w w1:=blA)
   go_wp2_with (go_at_call 73;refine(fF _ blA).mono ?_;rintro e w2 ⟨rfl,hb2⟩;obtain⟨hc2,hf2⟩:=Dq hb2;have hzd:=A37 hza hb2.size;have hze:=A37 hzb hb2.size;have dU:=A37 hzc hb2.size;have hbB:Below w.heap.size w w2:=(by exact iI.trans (hb2.mono iI.size)))
   have b0:w2.cell? ⟨w.heap.size+1+1,0,none⟩=some (.int .i64 0):=by rw[hc2 _ _ hzc,hc _ _ spz];simp[go_sem]
   have b1:w2.cell? ⟨w.heap.size+1+1,1,none⟩=some (.int .i64 0):=by rw[hc2 _ _ hzc,hc _ _ spz];simp[go_sem]
   have b2:w2.cell? ⟨w.heap.size+1+1,2,none⟩=some (.slice none 0 0):=by rw[hc2 _ _ hzc,hc _ _ spz];simp[go_sem]
   have b3:w2.cell? ⟨w.heap.size+1+1,3,none⟩=some (.slice none 0 0):=by rw[hc2 _ _ hzc,hc _ _ spz];simp[go_sem]
   refine bodyPost_ret (v:=.agg #[.int .i64 k1, .int .i64 o1, .slice a1 d1.length c1, .slice aO n1.length e1]) (by simp[results,Tryz.results100,go_sem,b0,b1,b2,b3]) rfl ⟨⟨k1,o1,d1,a1,c1,aO,e1,n1,rfl,?_,aH.out,λx hx=>.inl (eG x hx)⟩,?_⟩
   ·exact Ik.setO4 (vX w2 hbB) (λx hx e=>by have:=jO x (eG x hx) _ e;omega)
   ·clear iI hb1 hb2
    exact blA
 ·have jJ:S=X2:=by rw[HS.out];rfl
  have aH:Hid ((Ah.mk k2 o2 d2 (.slice a2 d2.length c2) (.slice aI n2.length e2) n2).net=S):=by show _=_;rw[jJ,HX2.out]
  have eG:Hid (∀x∈(Ah.mk k2 o2 d2 (.slice a2 d2.length c2) (.slice aI n2.length e2) n2).vals,x∈VS):=λx hx=>by rw[eF.out];exact A4g _ hx
  clear HS jJ lI vX fF;go_enter Tryz.func100,Tryz.ntmps100
  go_wp2_with (go_at_call 73;refine(gY _ blA).mono ?_;rintro e w1 ⟨rfl,hb1⟩;obtain⟨hc,hf⟩:=Dq hb1;have hza:w.heap.size<w1.heap.size:=A37 (by simp;omega) hb1.size;have hzb:w.heap.size+1<w1.heap.size:=A37 spz hb1.size;have hzc:w.heap.size+1+1<w1.heap.size:=A37 spz hb1.size;have iI:Below w.heap.size w w1:=blA)
  have b0:w1.cell? ⟨w.heap.size+1+1,0,none⟩=some (.int .i64 0):=by rw[hc _ _ spz];simp[go_sem]
  have b1:w1.cell? ⟨w.heap.size+1+1,1,none⟩=some (.int .i64 0):=by rw[hc _ _ spz];simp[go_sem]
  have b2:w1.cell? ⟨w.heap.size+1+1,2,none⟩=some (.slice none 0 0):=by rw[hc _ _ spz];simp[go_sem]
  have b3:w1.cell? ⟨w.heap.size+1+1,3,none⟩=some (.slice none 0 0):=by rw[hc _ _ spz];simp[go_sem]
  refine bodyPost_ret (v:=.agg #[.int .i64 k2, .int .i64 o2, .slice a2 d2.length c2, .slice aI n2.length e2]) (by simp[results,Tryz.results100,go_sem,b0,b1,b2,b3]) rfl ⟨⟨k2,o2,d2,a2,c2,aI,e2,n2,rfl,?_,aH.out,λx hx=>.inl (eG x hx)⟩,?_⟩
  ·exact Ik.setO4 (rP w1 iI) (λx hx e=>by have:=jO x (eG x hx) _ e;omega)
  ·clear hb1
   exact blA
theorem Awl (hB:B=W.heap.size){t:TypeId}:∀j u,[u0,u1][j]?=some u->(W.alloc (.cells #[u0,u1] t)).cell? ((⟨B,0,none⟩:Addr).add j)=some u:=by
 subst hB;intro j u h;rw[Addr.add_lit]
 match j,h with
 | 0,h=>simp at h;subst h;simp[go_sem]
 | 1,h=>simp at h;subst h;simp[go_sem]
 | j+2,h=>simp at h
theorem Pg.apart {w w1:World}{v:Value}{es ks:List Df}{b1:Nat}(h:Pg w base v es)(hk:∀m∈ks,EOk w1 b1 m)(hb:w.heap.size<=b1)(hp:(Ff ks).Pairwise Aside):(v::(Ff es++Ff ks)).Pairwise Aside:=by
 have hx:=h.lt;have hy:∀y∈Ff ks,∀k,y.ownBlock=some k->w.heap.size<=k:=by
  intro y hy k hk2;obtain⟨m,hm,rfl⟩:=Jd.1 hy;exact A4k hb ((hk m hm).lt k hk2).1
 have h2:=h.2.2;rw[A4u] at h2 ⊢;refine⟨λy hy2=>?_,List.pairwise_append.2 ⟨h2.2,hp,λx hx2 y hy2=>Ef (λk hk2=>(hx x (A4c _ hx2) k hk2).2) (hy y hy2)⟩⟩;rcases List.mem_append.1 hy2 with hy2 | hy2
 ·exact h2.1 y hy2
 ·exact Ef (λk hk2=>(hx v spz k hk2).2) (hy y hy2)
theorem Ayq (x:Stil.Elem)(B base lo:Nat)(ra:Option Addr)(rc:Nat)(ms:List Df)(av:Value)(w:World)(ih:∀W,Below w.heap.size w W->Calls Tryz.prog 72 #[.agg #[.int .i64 x.op,av]] W λe w'=>∃u,e=.returned (.agg #[.int .i64 x.op,u])/\w'.ownsRow W.heap.size 86 3 u x.args.length (Cb x.args)/\Below W.heap.size W w')
  (hav:Bi w av x.args) (hbx:w.cell? ⟨B,0,none⟩=some (.func (.func 72) #[] #[])) (hB:B<w.heap.size) (hrow:Pg w base (.slice ra ms.length rc) ms) (hl:ms.length+1<=1000000) (hbase:base<=w.heap.size) (hlo:lo<=w.heap.size) (hvl:∀k,(Value.slice ra ms.length rc).ownBlock=some k->lo<=k):
  Calls Tryz.prog 96 #[.slice ra ms.length rc, .agg #[.int .i64 x.op,av], .pointer (some ⟨B,0,none⟩)] w λe w'=>∃(a:Option Addr) (c:Nat) (m:Df),e=.returned (.slice a (ms.length+1) c)/\m.elem=x/\Pg w' base (.slice a (ms.length+1) c) (ms++[m])/\Below lo w w'/\∀k,(Value.slice a (ms.length+1) c).ownBlock=some k->lo<=k:=by
 have IH:=hid ih;have aP:=hid hrow;have jL:=hid hvl;obtain⟨p0,r0,rfl,bP⟩:=hav;clear bP;clear ih hrow hvl;go_enter Tryz.func96,Tryz.ntmps96
 go_wp2_with (first | (go_at_call 72;refine(IH _ blA).mono ?_;rintro e w1 ⟨u,rfl,g1,hb1⟩;obtain⟨s0,t0,hu⟩:=Af g1;subst hu;have aS:Below w.heap.size w w1:=blA;have hle1:=aS.size;have aJ:Hid (EOk w1 w.heap.size (Df.mk x.op x.args (.slice s0 x.args.length t0))/\True):=⟨Joins.ownsRow_le g1 spz,trivial⟩;have aH:Hid ((Df.mk x.op x.args (.slice s0 x.args.length t0)).elem=x):=rfl;clear g1) | (at_builtin;refine Aal rfl _ _ rfl base lo ra rc ms [(Df.mk x.op x.args (.slice s0 x.args.length t0))] _ 1 rfl rfl ((aP.below aS).below (Aa _ _)) (λ_=>⟨_,rfl,by exact Awl spz⟩) (λm hm=>by rw[List.mem_singleton.1 hm];exact(Joins.ownsRow_le (ownsRow_below aJ.1 (Aa _ _)) hbase)) (aP.apart (w1:=w1) (b1:=w.heap.size) (λm hm=>by rw[List.mem_singleton.1 hm];exact aJ.1) (A4d _) (List.pairwise_singleton _ _)) (by simp only[A48];exact hl) (by simp only[World.size_alloc];omega) (by simp only[World.size_alloc];omega) jL.out ?_;intro a6 c6 w6 aW hb6 hv6;have gJ:Hid (Pg w6 base (.slice a6 (ms.length+1) c6) (ms++[(Df.mk x.op x.args (.slice s0 x.args.length t0))])):=aW;have rG:Hid (∀k,(Value.slice a6 (ms.length+1) c6).ownBlock=some k->lo<=k):=hv6;clear aW hv6;have hb7:=(((Bq aS _).mono hlo)).trans hb6))
 go_ret;exact⟨a6,c6,_,rfl,aH.out,gJ.out,hb7,rG.out⟩
theorem zg0 {p:Prop}(h:p:=by
 obtain rfl:j=es.length:=by omega
 have hmn:=aH.out;rw[List.take_length] at hmn;have bV:=hid hmn;clear hmn
 go_wp2
 go_ret;exact⟨ra,rc,ms,rfl,bV.out,aP.out,hb⟩):p:=h
theorem A06 (es:List Stil.Elem)(ih:∀x∈es,∀(av:Value) (w:World),Bi w av x.args->Calls Tryz.prog 72 #[.agg #[.int .i64 x.op,av]] w λe w'=>∃u,e=.returned (.agg #[.int .i64 x.op,u])/\w'.ownsRow w.heap.size 86 3 u x.args.length (Cb x.args)/\Below w.heap.size w w')
  (B:Nat) (v:Value) (w:World) (hat:En w v es) (hl:es.length<=999999) (hbx:w.cell? ⟨B,0,none⟩=some (.func (.func 72) #[] #[])) (hB:B<w.heap.size):
  Calls Tryz.prog 95 #[v, .slice none 0 0, .func (.func 96) #[] #[.pointer (some ⟨B,0,none⟩)]] w λe w'=>∃(a:Option Addr) (c:Nat) (ms:List Df),e=.returned (.slice a ms.length c)/\ms.map Df.elem=es/\Pg w' w.heap.size (.slice a ms.length c) ms/\Below w.heap.size w w':=by
 obtain⟨a,cap,rfl,hc⟩:=hat;have HA:=hid hc;have IH:=hid ih;have cZ:=hid hbx;clear hc ih hbx;go_enter Tryz.func95,Tryz.ntmps95
 go_wp2
 go_loopw [1,11] (λd i wr=>∃(j:Nat) (ms:List Df) (ra:Option Addr) (rc:Nat),j<=es.length/\i=.int .i64 j/\d=.slice ra ms.length rc/\ms.map Df.elem=(es.take j)/\Pg wr w.heap.size (.slice ra ms.length rc) ms/\Below w.heap.size w wr) (λ_ i _=>es.length - (intOf i).toNat)
 case atStart=>exact⟨0,[],none,0,omz,rfl,rfl,rfl,Pg.nil _ _,Below.refl _ _⟩
 case round=>
  obtain⟨j,ms,ra,rc,hj,rfl,rfl,hmn,hmr,hb⟩:=hrel;have aH:=hid hmn;have aP:=hid hmr;clear hmn hmr;by_cases hlt:j<es.length
  ·have hml:ms.length=j:=by
    have h1:=congrArg List.length aH.out;simp only[A4o,List.length_take] at h1;omega
   obtain⟨b,o,rfl,hbl,hn⟩:=HA j hlt;obtain⟨x0,av,x1,hav⟩:=hn.below hb hbl;have aT:=hid (A4r hlt);have HI:Hid (∀W,Below wr.heap.size wr W->Calls Tryz.prog 96 #[.slice ra ms.length rc, .agg #[.int .i64 es[j].op,av], .pointer (some ⟨B,0,none⟩)] W λe w'=>∃(a:Option Addr) (c:Nat) (m:Df),e=.returned (.slice a (ms.length+1) c)/\m.elem=es[j]/\Pg w' w.heap.size (.slice a (ms.length+1) c) (ms++[m])/\Below w.heap.size W w'/\∀k,(Value.slice a (ms.length+1) c).ownBlock=some k->w.heap.size<=k):=by
    intro W hW;have hbW:=hb.trans (hW.mono hb.size);exact Ayq es[j] B w.heap.size w.heap.size ra rc ms av W (λV hV=>IH es[j] (A4f hlt) av V ((hav.below hW).below hV)) (hav.below hW) ((hbW.cell (p:=⟨B,0,none⟩) hB).trans cZ.out) (A37 hB hbW.size) (aP.below hW) omz hbW.size hbW.size (λk hk=>(aP.1.lt k hk).1)
   obtain⟨x,hx⟩:∃x,x=es[j]:=⟨_,rfl⟩
   rw[<-hx] at HI x0 hav aT;obtain⟨p0,r0,rfl,bP⟩:=hav;clear bP;have hb0:=A37 hbl hb.size;clear hx hn hml hbl
   go_wp2_with (go_at_call 96;refine(HI _ blA).mono ?_;rintro e w2 ⟨a2,c2,m,rfl,jF,fQ,hb2,hv2⟩;have hb3:=(show Below w.heap.size w _ from hb.trans ((show Below wr.heap.size wr _ from blA).mono hb.size)).trans hb2;have fF:=hid jF;have HR2:=hid fQ;clear jF fQ hv2)
   refine⟨⟨j+1,ms++[m],a2,c2,omz,by go_num,spz,?_,by rw[A38];exact HR2.out,hb3⟩,by simp[intOf];omega⟩;rw[aT.out,A4m,aH.out,List.map_singleton,fF.out]
  ·exact zg0
theorem Amc (es:List Stil.Elem)(ih:∀x∈es,∀(av:Value) (w:World),Bi w av x.args->Calls Tryz.prog 72 #[.agg #[.int .i64 x.op,av]] w λe w'=>∃u,e=.returned (.agg #[.int .i64 x.op,u])/\w'.ownsRow w.heap.size 86 3 u x.args.length (Cb x.args)/\Below w.heap.size w w')
  (v:Value) (w:World) (hat:En w v es) (hl:es.length<=999999):
  Calls Tryz.prog 71 #[v, .func (.func 72) #[] #[]] w λe w'=>∃(a:Option Addr) (c:Nat) (ms:List Df),e=.returned (.slice a ms.length c)/\ms.map Df.elem=es/\Pg w' w.heap.size (.slice a ms.length c) ms/\Below w.heap.size w w':=by
 have HF:=hid (λW B h h1 h2=>A06 es ih B v W (hat.below h) hl h1 h2);obtain⟨p0,r0,rfl,bP⟩:=hat;clear bP ih;go_enter Tryz.func71,Tryz.ntmps71
 go_wp2_with (go_at_call 95;refine(HF _ _ blA (by simp[go_sem]) spz).mono ?_;rintro e w1 ⟨ra,rc,ms,rfl,hmn,hmr,hb1⟩;have aH:=hid hmn;have aP:Hid (Pg w1 _ (.slice ra ms.length rc) ms):=hmr;clear hmn hmr)
 go_ret;exact⟨ra,rc,ms,rfl,aH.out,aP.le spz,blA⟩
theorem A1d (hB:B=W.heap.size){u2 u3 u4 u5:Value}{t:TypeId}:∀j u,[u0,u1,u2,u3,u4,u5][j]?=some u->(W.alloc (.cells #[u0,u1,u2,u3,u4,u5] t)).cell? ((⟨B,0,none⟩:Addr).add j)=some u:=by
 subst hB;intro j u h;rw[Addr.add_lit]
 match j,h with
 | 0,h=>simp at h;subst h;simp[go_sem]
 | 1,h=>simp at h;subst h;simp[go_sem]
 | 2,h=>simp at h;subst h;simp[go_sem]
 | 3,h=>simp at h;subst h;simp[go_sem]
 | 4,h=>simp at h;subst h;simp[go_sem]
 | 5,h=>simp at h;subst h;simp[go_sem]
 | j+6,h=>simp at h
theorem Ayr (x:Stil.Arm)(B base lo:Nat)(ra:Option Addr)(rc:Nat)(ms:List Aw)(av nv cv kv:Value)(w:World)(ih:∀W,Below w.heap.size w W->Calls Tryz.prog 45 #[.agg #[.int .i64 x.net.kind, .int .i64 x.net.one.op,av,nv,cv,kv]] W λe w'=>Aem w' W.heap.size (Dh x) e/\Below W.heap.size W w')
  (hav:Bi w av x.net.one.args) (hnv:Dx w nv x.net.kids) (hcv:En w cv x.coils) (hkv:Dj w kv x.kids) (hbx:w.cell? ⟨B,0,none⟩=some (.func (.func 45) #[] #[])) (hB:B<w.heap.size) (hrow:Oi w base (.slice ra ms.length rc) ms) (hl:ms.length+1<=1000000) (hbase:base<=w.heap.size) (hlo:lo<=w.heap.size) (hvl:∀k,(Value.slice ra ms.length rc).ownBlock=some k->lo<=k):
  Calls Tryz.prog 70 #[.slice ra ms.length rc, .agg #[.int .i64 x.net.kind, .int .i64 x.net.one.op,av,nv,cv,kv], .pointer (some ⟨B,0,none⟩)] w λe w'=>∃(a:Option Addr) (c:Nat) (m:Aw),e=.returned (.slice a (ms.length+1) c)/\m.arm=Dh x/\Oi w' base (.slice a (ms.length+1) c) (ms++[m])/\Below lo w w'/\∀k,(Value.slice a (ms.length+1) c).ownBlock=some k->lo<=k:=by
 have IH:=hid ih;have aP:=hid hrow;have jL:=hid hvl;obtain⟨p0,r0,rfl,kX⟩:=hav;obtain⟨p1,r1,rfl,kU⟩:=hnv;obtain⟨p2,r2,rfl,bP⟩:=hcv;obtain⟨p3,r3,rfl,iG⟩:=hkv;clear kX kU bP iG;clear ih hrow hvl;go_enter Tryz.func70,Tryz.ntmps70
 go_wp2_with (first | (go_at_call 45;refine(IH _ blA).mono ?_;rintro e w1 ⟨⟨k,op,ds,a1,c1,ns,a2,c2,cs,a3,c3,ks,a4,c4,rfl,hmo,hmn⟩,hb1⟩;have aS:Below w.heap.size w w1:=blA;have hle1:=aS.size;have aJ:Hid (Ic w1 w.heap.size (Aw.mk ⟨k,op,ds, .slice a1 ds.length c1, .slice a2 ns.length c2,ns⟩ (.slice a3 cs.length c3) cs (.slice a4 ks.length c4) ks)):=hmo.le spz;have aH:=hid hmn;clear hmo hmn) | (at_builtin;refine Vf rfl _ _ rfl base lo ra rc ms [(Aw.mk ⟨k,op,ds, .slice a1 ds.length c1, .slice a2 ns.length c2,ns⟩ (.slice a3 cs.length c3) cs (.slice a4 ks.length c4) ks)] _ 1 rfl rfl ((aP.below aS).below (Aa _ _)) (λ_=>⟨_,rfl,by exact A1d spz⟩) (λm hm=>by rw[List.mem_singleton.1 hm];exact((aJ.1.le hbase).below (Aa _ _))) (aP.apart (w1:=w1) (b1:=w.heap.size) (λm hm=>by rw[List.mem_singleton.1 hm];exact aJ.1) (A4d _) (by rw[Nq];exact aJ.2)) (by simp only[A48];exact hl) (by simp only[World.size_alloc];omega) (by simp only[World.size_alloc];omega) jL.out ?_;intro a6 c6 w6 aW hb6 hv6;have gJ:Hid (Oi w6 base (.slice a6 (ms.length+1) c6) (ms++[(Aw.mk ⟨k,op,ds, .slice a1 ds.length c1, .slice a2 ns.length c2,ns⟩ (.slice a3 cs.length c3) cs (.slice a4 ks.length c4) ks)])):=aW;have rG:Hid (∀k,(Value.slice a6 (ms.length+1) c6).ownBlock=some k->lo<=k):=hv6;clear aW hv6;have hb7:=(((Bq aS _).mono hlo)).trans hb6))
 go_ret;exact⟨a6,c6,_,rfl,aH.out,gJ.out,hb7,rG.out⟩
theorem A07 (es:List Stil.Arm)(ih:∀x∈es,∀(av nv cv kv:Value) (w:World),Bi w av x.net.one.args->Dx w nv x.net.kids->En w cv x.coils->Dj w kv x.kids->Calls Tryz.prog 45 #[.agg #[.int .i64 x.net.kind, .int .i64 x.net.one.op,av,nv,cv,kv]] w λe w'=>Aem w' w.heap.size (Dh x) e/\Below w.heap.size w w')
  (B:Nat) (v:Value) (w:World) (hat:Dj w v es) (hl:es.length<=999999) (hbx:w.cell? ⟨B,0,none⟩=some (.func (.func 45) #[] #[])) (hB:B<w.heap.size):
  Calls Tryz.prog 69 #[v, .slice none 0 0, .func (.func 70) #[] #[.pointer (some ⟨B,0,none⟩)]] w λe w'=>∃(a:Option Addr) (c:Nat) (ms:List Aw),e=.returned (.slice a ms.length c)/\ms.map Aw.arm=es.map Dh/\Oi w' w.heap.size (.slice a ms.length c) ms/\Below w.heap.size w w':=by
 obtain⟨a,cap,rfl,hc⟩:=hat;have HA:=hid hc;have IH:=hid ih;have cZ:=hid hbx;clear hc ih hbx;go_enter Tryz.func69,Tryz.ntmps69
 go_wp2
 go_loopw [1,11] (λd i wr=>∃(j:Nat) (ms:List Aw) (ra:Option Addr) (rc:Nat),j<=es.length/\i=.int .i64 j/\d=.slice ra ms.length rc/\ms.map Aw.arm=(es.take j).map Dh/\Oi wr w.heap.size (.slice ra ms.length rc) ms/\Below w.heap.size w wr) (λ_ i _=>es.length - (intOf i).toNat)
 case atStart=>exact⟨0,[],none,0,omz,rfl,rfl,rfl,Oi.nil _ _,Below.refl _ _⟩
 case round=>
  obtain⟨j,ms,ra,rc,hj,rfl,rfl,hmn,hmr,hb⟩:=hrel;have aH:=hid hmn;have aP:=hid hmr;clear hmn hmr;by_cases hlt:j<es.length
  ·have hml:ms.length=j:=by
    have h1:=congrArg List.length aH.out;simp only[A4o,List.length_take] at h1;omega
   obtain⟨b,o,rfl,hbl,hn⟩:=HA j hlt;obtain⟨hna,cv,kv,x4,x5,hcv,hkv⟩:=(Pz.below hb _ _ _ hn hbl).open;obtain⟨x0,x1,av,nv,x2,x3,hav,hnv⟩:=hna.open;have aT:=hid (A4r hlt);have HI:Hid (∀W,Below wr.heap.size wr W->Calls Tryz.prog 70 #[.slice ra ms.length rc, .agg #[.int .i64 es[j].net.kind, .int .i64 es[j].net.one.op,av,nv,cv,kv], .pointer (some ⟨B,0,none⟩)] W λe w'=>∃(a:Option Addr) (c:Nat) (m:Aw),e=.returned (.slice a (ms.length+1) c)/\m.arm=Dh es[j]/\Oi w' w.heap.size (.slice a (ms.length+1) c) (ms++[m])/\Below w.heap.size W w'/\∀k,(Value.slice a (ms.length+1) c).ownBlock=some k->w.heap.size<=k):=by
    intro W hW;have hbW:=hb.trans (hW.mono hb.size);exact Ayr es[j] B w.heap.size w.heap.size ra rc ms av nv cv kv W (λV hV=>IH es[j] (A4f hlt) av nv cv kv V ((hav.below hW).below hV) ((hnv.below hW).below hV) ((hcv.below hW).below hV) ((hkv.below hW).below hV)) (hav.below hW) (hnv.below hW) (hcv.below hW) (hkv.below hW) ((hbW.cell (p:=⟨B,0,none⟩) hB).trans cZ.out) (A37 hB hbW.size) (aP.below hW) omz hbW.size hbW.size (λk hk=>(aP.1.lt k hk).1)
   obtain⟨x,hx⟩:∃x,x=es[j]:=⟨_,rfl⟩
   rw[<-hx] at HI x0 x1 hav hnv hcv hkv aT;obtain⟨p0,r0,rfl,kX⟩:=hav;obtain⟨p1,r1,rfl,kU⟩:=hnv;obtain⟨p2,r2,rfl,bP⟩:=hcv;obtain⟨p3,r3,rfl,iG⟩:=hkv;clear kX kU bP iG hna;have hb0:=A37 hbl hb.size;clear hx hn hml hbl
   go_wp2_with (go_at_call 70;refine(HI _ blA).mono ?_;rintro e w2 ⟨a2,c2,m,rfl,jF,fQ,hb2,hv2⟩;have hb3:=(show Below w.heap.size w _ from hb.trans ((show Below wr.heap.size wr _ from blA).mono hb.size)).trans hb2;have fF:=hid jF;have HR2:=hid fQ;clear jF fQ hv2)
   refine⟨⟨j+1,ms++[m],a2,c2,omz,by go_num,spz,?_,by rw[A38];exact HR2.out,hb3⟩,by simp[intOf];omega⟩;rw[aT.out,A4m,A4m,aH.out,List.map_singleton,List.map_singleton,fF.out]
  ·exact zg0
theorem Ads (es:List Stil.Arm)(ih:∀x∈es,∀(av nv cv kv:Value) (w:World),Bi w av x.net.one.args->Dx w nv x.net.kids->En w cv x.coils->Dj w kv x.kids->Calls Tryz.prog 45 #[.agg #[.int .i64 x.net.kind, .int .i64 x.net.one.op,av,nv,cv,kv]] w λe w'=>Aem w' w.heap.size (Dh x) e/\Below w.heap.size w w')
  (v:Value) (w:World) (hat:Dj w v es) (hl:es.length<=999999):
  Calls Tryz.prog 44 #[v, .func (.func 45) #[] #[]] w λe w'=>∃(a:Option Addr) (c:Nat) (ms:List Aw),e=.returned (.slice a ms.length c)/\ms.map Aw.arm=es.map Dh/\Oi w' w.heap.size (.slice a ms.length c) ms/\Below w.heap.size w w':=by
 have HF:=hid (λW B h h1 h2=>A07 es ih B v W (hat.below h) hl h1 h2);obtain⟨p0,r0,rfl,bP⟩:=hat;clear bP ih;go_enter Tryz.func44,Tryz.ntmps44
 go_wp2_with (go_at_call 69;refine(HF _ _ blA (by simp[go_sem]) spz).mono ?_;rintro e w1 ⟨ra,rc,ms,rfl,hmn,hmr,hb1⟩;have aH:=hid hmn;have aP:Hid (Oi w1 _ (.slice ra ms.length rc) ms):=hmr;clear hmn hmr)
 go_ret;exact⟨ra,rc,ms,rfl,aH.out,aP.le spz,blA⟩
end Go.Proofs.YtbfljjcnbbmoaaaGreatDoor
