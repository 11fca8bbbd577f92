import Derived.Test.YtbfljjcnbbmoaaaGreatDoorY7g
import Derived.Test.YtbfljjcnbbmoaaaGreatDoorGO
import Derived.Test.YtbfljjcnbbmoaaaGreatDoorGp
import Derived.Test.YtbfljjcnbbmoaaaGreatDoorGr
set_option maxHeartbeats 4000000
set_option maxRecDepth 100000
namespace Go.Proofs.YtbfljjcnbbmoaaaGreatDoor
open Stil
open Go.RowKit Go.Sort Go.BigFrame
def Ahe (w:World) (base:Nat) (vs:List Value) (lo:Nat) (n:Stil.Net) (e:Ending):Prop:=∃(k op:Int) (ds:List Stil.Dev) (a1:Option Addr) (c1:Nat) (a2:Option Addr) (c2:Nat) (ms:List Ah),e=.returned (.agg #[.int .i64 k, .int .i64 op, .slice a1 ds.length c1, .slice a2 ms.length c2])/\
 Ib w base ⟨k,op,ds, .slice a1 ds.length c1, .slice a2 ms.length c2,ms⟩/\(Ah.mk k op ds (.slice a1 ds.length c1) (.slice a2 ms.length c2) ms).net=n/\∀x∈(Ah.mk k op ds (.slice a1 ds.length c1) (.slice a2 ms.length c2) ms).vals,x∈vs\/∀q,x.ownBlock=some q->lo<=q
theorem Aiw (k:Int) (base:Nat) (ms0:List Ah) (a:Option Addr) (cap:Nat) (w:World) (hrow:Jt w base (.slice a ms0.length cap) ms0) (hl:Stil.sizes (ms0.map Ah.net)<=999999) (hbase:base<=w.heap.size):
  Calls Tryz.prog 99 #[.int .i64 k, .slice a ms0.length cap] w λe w'=>Ahe w' base (Eh ms0) w.heap.size (Ei k (Cb k (ms0.map Ah.net))) e/\Below w.heap.size w w':=by
 have HF:=hid (λW B h h1 h2=>Afc k B base ms0 a cap W h1 h2 (hrow.below h) hl (A4p hbase h.size));obtain⟨F,hF⟩:∃F,F=Cb k (ms0.map Ah.net):=⟨_,rfl⟩
 rw[<-hF] at HF ⊢;have HLT:=hid (λx hx q hq=>(hrow.lt x (A4h _ hx) q hq).2);clear hrow hl hF;go_enter Tryz.func99,Tryz.ntmps99;go_upto_region 2 with(go_at_call 119;refine(HF.out _ _ blA (by simp[go_sem]) (by simp;omega)).mono ?_;rintro e w1 ⟨ra,rc,ms,rfl,hmn,hmr,hb1,hsub,hvl⟩;have HMN:=hid hmn;have HMR:=hid hmr;have HNE:Hid (∀x∈(Value.slice ra ms.length rc)::Eh ms,x.ownBlock≠some (w.heap.size+1)):=(by intro x hx e;rcases List.mem_cons.1 hx with rfl | hx;(have:=hvl _ e;simp at this;omega);(have:=HLT.out x (hsub.subset hx) _ e;omega));have HVS:Hid (∀x∈(Value.slice ra ms.length rc)::Eh ms,x∈Eh ms0\/∀q,x.ownBlock=some q->w.heap.size<=q):=(by intro x hx;rcases List.mem_cons.1 hx with rfl | hx;(exact .inr (λq hq=>A4p (by simp;omega) (hvl q hq)));(exact .inl (hsub.subset hx)));clear hmn hmr hsub hvl)
 obtain⟨hc,hf⟩:=Dl hb1;have hzb:w.heap.size+1<w1.heap.size:=A4c (by simp) hb1.size;have kd:w1.cell? ⟨w.heap.size,0,none⟩=some (.int .i64 k):=by rw[hc _ _ (by simp;omega)];simp[go_sem]
 have z0:w1.cell? ⟨w.heap.size+1,0,none⟩=some (.int .i64 0):=by rw[hc _ _ (by simp)];simp[go_sem]
 have z1:w1.cell? ⟨w.heap.size+1,1,none⟩=some (.int .i64 0):=by rw[hc _ _ (by simp)];simp[go_sem]
 have z2:w1.cell? ⟨w.heap.size+1,2,none⟩=some (.slice none 0 0):=by rw[hc _ _ (by simp)];simp[go_sem]
 have z3:w1.cell? ⟨w.heap.size+1,3,none⟩=some (.slice none 0 0):=by rw[hc _ _ (by simp)];simp[go_sem]
 have f0:w1.frozen? ⟨w.heap.size+1,0,none⟩=false:=by rw[hf _ _ (by simp)];simp[go_sem]
 have f1:w1.frozen? ⟨w.heap.size+1,1,none⟩=false:=by rw[hf _ _ (by simp)];simp[go_sem]
 have f2:w1.frozen? ⟨w.heap.size+1,2,none⟩=false:=by rw[hf _ _ (by simp)];simp[go_sem]
 have f3:w1.frozen? ⟨w.heap.size+1,3,none⟩=false:=by rw[hf _ _ (by simp)];simp[go_sem]
 have hB1:Below w.heap.size w w1:=blA;clear hc hf hb1 HF HLT;by_cases h1:ms.length=1
 ·obtain⟨m,rfl⟩:=List.length_eq_one_iff.1 h1
  have hmo:=HMR.out.one 0 (by simp);simp only[List.getElem_cons_zero] at hmo;obtain⟨g,c,hv,_,hlt2,_,hcell⟩:=Aw HMR.out.1 (by simp);obtain⟨a1,a2,a3,a4⟩:=I9 [m] 0 (by simp);have y0:=hcell _ _ a1;have y1:=hcell _ _ a2;have y2:=hcell _ _ a3;have y3:=hcell _ _ a4;simp only[List.getElem_cons_zero,Nat.zero_mul,A4m] at y0 y1 y2 y3;have hok:=(Hq _ _ _).1 hmo.1;obtain⟨d1,d2,hd⟩:=Af hok.1;obtain⟨d3,d4,hd2⟩:=Af hok.2.1;simp only[Value.slice.injEq] at hv;obtain⟨rfl,_,rfl⟩:=hv;have HBL:Hid (Ei k F=m.net):=by show _=_;rw[<-HMN.out];rfl
  have HNE2:=hid (λx hx=>HNE.out x (A4h _ (by rw[Iz];exact hx)));have HVS2:=hid (λx hx=>HVS.out x (A4h _ (by rw[Iz];exact hx)));clear HNE HMN HVS;obtain⟨mk,mop,mds,mav,mkv,mks⟩:=m;simp only at hd hd2 y0 y1 y2 y3;subst hd;subst hd2;have HMO:=hid hmo;clear hmo hok hcell HMR;simp only[A5d]
  go_wp2
  refine bodyPost_ret (v:=.agg #[.int .i64 mk, .int .i64 mop, .slice d1 mds.length d2, .slice d3 mks.length d4]) (by simp[results,Tryz.results99,go_sem,z0,z1,z2,z3]) rfl ⟨⟨mk,mop,mds,d1,d2,d3,d4,mks,rfl,?_,HBL.out.symm,HVS2.out⟩,blA⟩;exact Ib.setO4 HMO.out HNE2.out
 ·have HBL:Hid (Ei k F=⟨k,⟨0,[]⟩,ms.map Ah.net⟩):=by
   show _=_
   rw[<-HMN.out];unfold Ei;rw[dif_neg (by simpa using h1)]
  have hmo:=HMR.out.net k 0 [] (World.ownsRow_nil _ _ _ _) (λx _=>Lu x);have HMO:=hid hmo;have HNE2:Hid (∀x∈(Ah.mk k 0 [] (.slice none 0 0) (.slice ra ms.length rc) ms).vals,x.ownBlock≠some (w.heap.size+1)):=by
   intro x hx;rw[Ah.vals_eq] at hx;rcases List.mem_cons.1 hx with rfl | hx
   ·intro e;cases e
   ·exact HNE.out x hx
  have HVS2:Hid (∀x∈(Ah.mk k 0 [] (.slice none 0 0) (.slice ra ms.length rc) ms).vals,x∈Eh ms0\/∀q,x.ownBlock=some q->w.heap.size<=q):=by
   intro x hx;rw[Ah.vals_eq] at hx;rcases List.mem_cons.1 hx with rfl | hx
   ·exact .inr (λq hq=>by cases hq)
   ·exact HVS.out x hx
  clear HVS;have e1':((ms.length:Int)==1)=false:=by rw[A5f];omega
  have e1'':¬((ms.length:Int)=1):=by omega
  clear hmo HMR HNE HMN
  go_wp2
  refine bodyPost_ret (v:=.agg #[.int .i64 k, .int .i64 0, .slice none 0 0, .slice ra ms.length rc]) (by simp[results,Tryz.results99,go_sem,z0,z1,z2,z3]) rfl ⟨⟨k,0,[],none,0,ra,rc,ms,rfl,?_,by rw[Ah.net_eq,HBL.out],HVS2.out⟩,blA⟩;exact Ib.setO4 HMO.out HNE2.out
theorem Ed {W:World} {ob:Obj} {c p:Nat} (h:c<W.heap.size):(W.alloc ob).cell? ⟨c,p,none⟩=W.cell? ⟨c,p,none⟩:=(Aa W ob).cell (p:=⟨c,p,none⟩) h
theorem Jt.pair {w:World} {base:Nat} {m1 m2:Ah} (h1:MOk w base m1) (h2:MOk w base m2) (hp:(m1.vals++m2.vals).Pairwise Aside) (hb:base<=w.heap.size):Jt (w.alloc (.cells #[.int .i64 m1.kind, .int .i64 m1.op,m1.av,m1.kv, .int .i64 m2.kind, .int .i64 m2.op,m2.av,m2.kv] 52)) base (.slice (some ⟨w.heap.size,0,none⟩) 2 2) [m1,m2]:=by
 have hv:Eh [m1,m2]=m1.vals++m2.vals:=by simp[Eh]
 refine⟨?_,λx hx=>?_,?_⟩
 ·exact World.ownsRow_lit w #[.int .i64 m1.kind, .int .i64 m1.op,m1.av,m1.kv, .int .i64 m2.kind, .int .i64 m2.op,m2.av,m2.kv] 2 hb (by unfold maxLen;omega) rfl
 ·rcases List.mem_cons.1 hx with rfl | hx
  ·exact h1.below (Aa _ _)
  ·rw[List.mem_singleton.1 hx];exact h2.below (Aa _ _)
 ·rw[hv,A4z]
  refine⟨λy hy=>(Eb (n:=w.heap.size) (λk hk=>?_) (λk hk=>?_)).symm,hp⟩
  ·rcases List.mem_append.1 hy with hy | hy
   ·exact(h1.lt m1 y hy k hk).2
   ·exact(h2.lt m2 y hy k hk).2
  ·have e:w.heap.size=k:=by simpa[Value.ownBlock] using hk
   omega
theorem Aiv (k1 o1:Int) (d1:List Stil.Dev) (a1:Option Addr) (c1:Nat) (b1_:Option Addr) (e1:Nat) (n1:List Ah) (k2 o2:Int) (d2:List Stil.Dev) (a2:Option Addr) (c2:Nat) (b2_:Option Addr) (e2:Nat) (n2:List Ah) (base:Nat) (w:World)
  (h1:MOk w base (Ah.mk k1 o1 d1 (.slice a1 d1.length c1) (.slice b1_ n1.length e1) n1)) (h2:MOk w base (Ah.mk k2 o2 d2 (.slice a2 d2.length c2) (.slice b2_ n2.length e2) n2)) (hp:((Ah.mk k1 o1 d1 (.slice a1 d1.length c1) (.slice b1_ n1.length e1) n1).vals++(Ah.mk k2 o2 d2 (.slice a2 d2.length c2) (.slice b2_ n2.length e2) n2).vals).Pairwise Aside) (hbase:base<=w.heap.size) (hs:Stil.sizes [(Ah.mk k1 o1 d1 (.slice a1 d1.length c1) (.slice b1_ n1.length e1) n1).net,(Ah.mk k2 o2 d2 (.slice a2 d2.length c2) (.slice b2_ n2.length e2) n2).net]<=999999) (hf1:Cc (Ah.mk k1 o1 d1 (.slice a1 d1.length c1) (.slice b1_ n1.length e1) n1).net) (hf2:Cc (Ah.mk k2 o2 d2 (.slice a2 d2.length c2) (.slice b2_ n2.length e2) n2).net):
  Calls Tryz.prog 100 #[.agg #[.int .i64 k1, .int .i64 o1, .slice a1 d1.length c1, .slice b1_ n1.length e1], .agg #[.int .i64 k2, .int .i64 o2, .slice a2 d2.length c2, .slice b2_ n2.length e2]] w λe w'=>Ahe w' base ((Ah.mk k1 o1 d1 (.slice a1 d1.length c1) (.slice b1_ n1.length e1) n1).vals++(Ah.mk k2 o2 d2 (.slice a2 d2.length c2) (.slice b2_ n2.length e2) n2).vals) w.heap.size (Ji (Ah.mk k1 o1 d1 (.slice a1 d1.length c1) (.slice b1_ n1.length e1) n1).net (Ah.mk k2 o2 d2 (.slice a2 d2.length c2) (.slice b2_ n2.length e2) n2).net) e/\Below w.heap.size w w':=by
 obtain⟨f1,f2⟩:=MOk.from _ h1;obtain⟨f3,f4⟩:=MOk.from _ h2;have HN1:Hid (∀W,Below w.heap.size w W->Calls Tryz.prog 73 #[.agg #[.int .i64 k1, .int .i64 o1, .slice a1 d1.length c1, .slice b1_ n1.length e1]] W λe w'=>e=.returned (.bool (Aq (Ah.mk k1 o1 d1 (.slice a1 d1.length c1) (.slice b1_ n1.length e1) n1).net))/\Below W.heap.size W w'):=by
  intro W h;have:=Uc (Ah.mk k1 o1 d1 (.slice a1 d1.length c1) (.slice b1_ n1.length e1) n1).net _ _ W (f1.at.below h) (f2.at.below h) hf1
  have e:=Ah.net_eq (Ah.mk k1 o1 d1 (.slice a1 d1.length c1) (.slice b1_ n1.length e1) n1);have ee1:(Ah.mk k1 o1 d1 (.slice a1 d1.length c1) (.slice b1_ n1.length e1) n1).net.kind=k1:=by rw[e]
  have ee2:(Ah.mk k1 o1 d1 (.slice a1 d1.length c1) (.slice b1_ n1.length e1) n1).net.one.op=o1:=by rw[e]
  rw[ee1,ee2] at this;exact this
 have HN2:Hid (∀W,Below w.heap.size w W->Calls Tryz.prog 73 #[.agg #[.int .i64 k2, .int .i64 o2, .slice a2 d2.length c2, .slice b2_ n2.length e2]] W λe w'=>e=.returned (.bool (Aq (Ah.mk k2 o2 d2 (.slice a2 d2.length c2) (.slice b2_ n2.length e2) n2).net))/\Below W.heap.size W w'):=by
  intro W h;have:=Uc (Ah.mk k2 o2 d2 (.slice a2 d2.length c2) (.slice b2_ n2.length e2) n2).net _ _ W (f3.at.below h) (f4.at.below h) hf2
  have e:=Ah.net_eq (Ah.mk k2 o2 d2 (.slice a2 d2.length c2) (.slice b2_ n2.length e2) n2);have ee1:(Ah.mk k2 o2 d2 (.slice a2 d2.length c2) (.slice b2_ n2.length e2) n2).net.kind=k2:=by rw[e]
  have ee2:(Ah.mk k2 o2 d2 (.slice a2 d2.length c2) (.slice b2_ n2.length e2) n2).net.one.op=o2:=by rw[e]
  rw[ee1,ee2] at this;exact this
 have hp1:=List.pairwise_append.1 hp;have HO1:Hid (∀W,Below w.heap.size w W->Ib W base (Ah.mk k1 o1 d1 (.slice a1 d1.length c1) (.slice b1_ n1.length e1) n1)):=λW h=>⟨h1.below h,hp1.1⟩
 have HO2:Hid (∀W,Below w.heap.size w W->Ib W base (Ah.mk k2 o2 d2 (.slice a2 d2.length c2) (.slice b2_ n2.length e2) n2)):=λW h=>⟨h2.below h,hp1.2.1⟩
 have HLT:Hid (∀x∈(Ah.mk k1 o1 d1 (.slice a1 d1.length c1) (.slice b1_ n1.length e1) n1).vals++(Ah.mk k2 o2 d2 (.slice a2 d2.length c2) (.slice b2_ n2.length e2) n2).vals,∀q,x.ownBlock=some q->q<w.heap.size):=by
  intro x hx q hq;rcases List.mem_append.1 hx with hx | hx
  ·exact(h1.lt _ x hx q hq).2
  ·exact(h2.lt _ x hx q hq).2
 have HNB:Hid (∀W,Below w.heap.size w W->Calls Tryz.prog 99 #[.int .i64 2, .slice (some ⟨W.heap.size,0,none⟩) 2 2] (W.alloc (.cells #[.int .i64 k1, .int .i64 o1, .slice a1 d1.length c1, .slice b1_ n1.length e1, .int .i64 k2, .int .i64 o2, .slice a2 d2.length c2, .slice b2_ n2.length e2] 52)) λe w'=>Ahe w' base ((Ah.mk k1 o1 d1 (.slice a1 d1.length c1) (.slice b1_ n1.length e1) n1).vals++(Ah.mk k2 o2 d2 (.slice a2 d2.length c2) (.slice b2_ n2.length e2) n2).vals) (W.alloc (.cells #[.int .i64 k1, .int .i64 o1, .slice a1 d1.length c1, .slice b1_ n1.length e1, .int .i64 k2, .int .i64 o2, .slice a2 d2.length c2, .slice b2_ n2.length e2] 52)).heap.size (Ei 2 (Cb 2 [(Ah.mk k1 o1 d1 (.slice a1 d1.length c1) (.slice b1_ n1.length e1) n1).net,(Ah.mk k2 o2 d2 (.slice a2 d2.length c2) (.slice b2_ n2.length e2) n2).net])) e/\Below (W.alloc (.cells #[.int .i64 k1, .int .i64 o1, .slice a1 d1.length c1, .slice b1_ n1.length e1, .int .i64 k2, .int .i64 o2, .slice a2 d2.length c2, .slice b2_ n2.length e2] 52)).heap.size (W.alloc (.cells #[.int .i64 k1, .int .i64 o1, .slice a1 d1.length c1, .slice b1_ n1.length e1, .int .i64 k2, .int .i64 o2, .slice a2 d2.length c2, .slice b2_ n2.length e2] 52)) w'):=by
  intro W h;have hr:=Jt.pair (h1.below h) (h2.below h) hp (A4p hbase h.size);have:=Aiw 2 base [(Ah.mk k1 o1 d1 (.slice a1 d1.length c1) (.slice b1_ n1.length e1) n1),(Ah.mk k2 o2 d2 (.slice a2 d2.length c2) (.slice b2_ n2.length e2) n2)] (some ⟨W.heap.size,0,none⟩) 2 _ hr hs (A4p hbase (A4p h.size (by simp)))
  have hv:Eh [(Ah.mk k1 o1 d1 (.slice a1 d1.length c1) (.slice b1_ n1.length e1) n1),(Ah.mk k2 o2 d2 (.slice a2 d2.length c2) (.slice b2_ n2.length e2) n2)]=(Ah.mk k1 o1 d1 (.slice a1 d1.length c1) (.slice b1_ n1.length e1) n1).vals++(Ah.mk k2 o2 d2 (.slice a2 d2.length c2) (.slice b2_ n2.length e2) n2).vals:=by simp[Eh]
  rw[hv] at this;exact this
 obtain⟨S,hS⟩:∃S,S=Ji (Ah.mk k1 o1 d1 (.slice a1 d1.length c1) (.slice b1_ n1.length e1) n1).net (Ah.mk k2 o2 d2 (.slice a2 d2.length c2) (.slice b2_ n2.length e2) n2).net:=⟨_,rfl⟩
 have HS:Hid (S=if Aq (Ah.mk k1 o1 d1 (.slice a1 d1.length c1) (.slice b1_ n1.length e1) n1).net then(Ah.mk k2 o2 d2 (.slice a2 d2.length c2) (.slice b2_ n2.length e2) n2).net else if Aq (Ah.mk k2 o2 d2 (.slice a2 d2.length c2) (.slice b2_ n2.length e2) n2).net then(Ah.mk k1 o1 d1 (.slice a1 d1.length c1) (.slice b1_ n1.length e1) n1).net else Ei 2 (Cb 2 [(Ah.mk k1 o1 d1 (.slice a1 d1.length c1) (.slice b1_ n1.length e1) n1).net,(Ah.mk k2 o2 d2 (.slice a2 d2.length c2) (.slice b2_ n2.length e2) n2).net])):=hS;rw[<-hS];obtain⟨t1,ht1⟩:∃t,t=Aq (Ah.mk k1 o1 d1 (.slice a1 d1.length c1) (.slice b1_ n1.length e1) n1).net:=⟨_,rfl⟩
 obtain⟨t2,ht2⟩:∃t,t=Aq (Ah.mk k2 o2 d2 (.slice a2 d2.length c2) (.slice b2_ n2.length e2) n2).net:=⟨_,rfl⟩
 rw[<-ht1] at HN1 HS;rw[<-ht2] at HN2 HS;obtain⟨VS,hVS⟩:∃VS,VS=(Ah.mk k1 o1 d1 (.slice a1 d1.length c1) (.slice b1_ n1.length e1) n1).vals++(Ah.mk k2 o2 d2 (.slice a2 d2.length c2) (.slice b2_ n2.length e2) n2).vals:=⟨_,rfl⟩
 have HVS:=hid hVS;rw[<-hVS] at HLT HNB ⊢;obtain⟨X1,hX1⟩:∃X,X=(Ah.mk k1 o1 d1 (.slice a1 d1.length c1) (.slice b1_ n1.length e1) n1).net:=⟨_,rfl⟩
 obtain⟨X2,hX2⟩:∃X,X=(Ah.mk k2 o2 d2 (.slice a2 d2.length c2) (.slice b2_ n2.length e2) n2).net:=⟨_,rfl⟩
 have HX1:=hid hX1;have HX2:=hid hX2;rw[<-hX1,<-hX2] at HNB HS;clear hS ht1 ht2 hVS hX1 hX2 f1 f2 f3 f4 h1 h2 hp hp1 hs hf1 hf2;cases t1
 ·cases t2
  ·have hSe:S=Ei 2 (Cb 2 [X1,X2]):=by rw[HS.out];rfl
   rw[<-hSe] at HNB;clear HS hSe HO1 HO2;go_enter Tryz.func100,Tryz.ntmps100;go_upto_region 3 with(go_at_call 73;refine(HN1.out _ blA).mono ?_;rintro e w1 ⟨rfl,hb1⟩;obtain⟨hc,hf⟩:=Dl hb1;have hza:w.heap.size<w1.heap.size:=A4c (by simp;omega) hb1.size;have hzb:w.heap.size+1<w1.heap.size:=A4c (by simp) hb1.size;have hzc:w.heap.size+1+1<w1.heap.size:=A4c (by simp) hb1.size;have hbA:Below w.heap.size w w1:=blA)
   go_upto_region 5 with(go_at_call 73;refine(HN2.out _ blA).mono ?_;rintro e w2 ⟨rfl,hb2⟩;obtain⟨hc2,hf2⟩:=Dl hb2;have hzd:=A4c hza hb2.size;have hze:=A4c hzb hb2.size;have hzf:=A4c hzc hb2.size;have hbB:=(by exact hbA.trans (hb2.mono hbA.size)))
   go_wp2_with (go_at_call 99;refine(HNB.out w2 hbB).mono ?_;rintro e w3 ⟨⟨mk,mop,mds,s0,t0,s1,t1,mks,rfl,hmo,hmn,hvs⟩,hb3⟩;obtain⟨hc3,hf3⟩:=Dl hb3;have hzg:=A4c (A4c hzf (by simp)) hb3.size;have HMO:=hid hmo;have HMN:=hid hmn;have HW:Hid (∀x∈(Ah.mk mk mop mds (.slice s0 mds.length t0) (.slice s1 mks.length t1) mks).vals,x∈VS\/∀q,x.ownBlock=some q->w2.heap.size<=q):=(λx hx=>(hvs x hx).imp id (λh q hq=>A4p (by simp) (h q hq)));clear hmo hmn hvs)
   have b0:w3.cell? ⟨w.heap.size+1+1,0,none⟩=some (.int .i64 0):=by rw[hc3 _ _ (A4c hzf (by simp)),Ed hzf,hc2 _ _ hzc,hc _ _ (by simp)];simp[go_sem]
   have b1:w3.cell? ⟨w.heap.size+1+1,1,none⟩=some (.int .i64 0):=by rw[hc3 _ _ (A4c hzf (by simp)),Ed hzf,hc2 _ _ hzc,hc _ _ (by simp)];simp[go_sem]
   have b2:w3.cell? ⟨w.heap.size+1+1,2,none⟩=some (.slice none 0 0):=by rw[hc3 _ _ (A4c hzf (by simp)),Ed hzf,hc2 _ _ hzc,hc _ _ (by simp)];simp[go_sem]
   have b3:w3.cell? ⟨w.heap.size+1+1,3,none⟩=some (.slice none 0 0):=by rw[hc3 _ _ (A4c hzf (by simp)),Ed hzf,hc2 _ _ hzc,hc _ _ (by simp)];simp[go_sem]
   refine bodyPost_ret (v:=.agg #[.int .i64 mk, .int .i64 mop, .slice s0 mds.length t0, .slice s1 mks.length t1]) (by simp[results,Tryz.results100,go_sem,b0,b1,b2,b3]) rfl ⟨⟨mk,mop,mds,s0,t0,s1,t1,mks,rfl,?_,HMN.out,λx hx=>(HW.out x hx).imp id (λh q hq=>by have:=h q hq;omega)⟩,?_⟩
   ·refine Ib.setO4 HMO.out (λx hx e=>?_)
    rcases HW.out x hx with h | h
    ·have:=HLT.out x h _ e;omega
    ·have:=h _ e;omega
   ·have hbC:=(Bl hbB _).trans (hb3.mono (by have:=hbB.size;simp;omega))
    clear hbA hbB hb1 hb2 hb3
    (repeat (first | with_reducible exact Below.refl _ _ | with_reducible assumption | with_reducible refine Bv (by first | exact A4i _ | (simp;done) | (simp;omega) | omega) ?_ _ | with_reducible refine Bl ?_ _ | with_reducible refine G9 ?_ _ | with_reducible refine Ij ?_ | with_reducible refine G7 ?_ _ _ | with_reducible refine Cj ?_ (by assumption)))
  ·have hSe:S=X1:=by rw[HS.out];rfl
   have HMN:Hid ((Ah.mk k1 o1 d1 (.slice a1 d1.length c1) (.slice b1_ n1.length e1) n1).net=S):=by show _=_;rw[hSe,HX1.out]
   have HIN:Hid (∀x∈(Ah.mk k1 o1 d1 (.slice a1 d1.length c1) (.slice b1_ n1.length e1) n1).vals,x∈VS):=λx hx=>by rw[HVS.out];exact A4o _ hx
   clear HS hSe HNB HO2;go_enter Tryz.func100,Tryz.ntmps100;go_upto_region 3 with(go_at_call 73;refine(HN1.out _ blA).mono ?_;rintro e w1 ⟨rfl,hb1⟩;obtain⟨hc,hf⟩:=Dl hb1;have hza:w.heap.size<w1.heap.size:=A4c (by simp;omega) hb1.size;have hzb:w.heap.size+1<w1.heap.size:=A4c (by simp) hb1.size;have hzc:w.heap.size+1+1<w1.heap.size:=A4c (by simp) hb1.size;have hbA:Below w.heap.size w w1:=blA)
   go_wp2_with (go_at_call 73;refine(HN2.out _ blA).mono ?_;rintro e w2 ⟨rfl,hb2⟩;obtain⟨hc2,hf2⟩:=Dl hb2;have hzd:=A4c hza hb2.size;have hze:=A4c hzb hb2.size;have hzf:=A4c hzc hb2.size;have hbB:=(by exact hbA.trans (hb2.mono hbA.size)))
   have b0:w2.cell? ⟨w.heap.size+1+1,0,none⟩=some (.int .i64 0):=by rw[hc2 _ _ hzc,hc _ _ (by simp)];simp[go_sem]
   have b1:w2.cell? ⟨w.heap.size+1+1,1,none⟩=some (.int .i64 0):=by rw[hc2 _ _ hzc,hc _ _ (by simp)];simp[go_sem]
   have b2:w2.cell? ⟨w.heap.size+1+1,2,none⟩=some (.slice none 0 0):=by rw[hc2 _ _ hzc,hc _ _ (by simp)];simp[go_sem]
   have b3:w2.cell? ⟨w.heap.size+1+1,3,none⟩=some (.slice none 0 0):=by rw[hc2 _ _ hzc,hc _ _ (by simp)];simp[go_sem]
   refine bodyPost_ret (v:=.agg #[.int .i64 k1, .int .i64 o1, .slice a1 d1.length c1, .slice b1_ n1.length e1]) (by simp[results,Tryz.results100,go_sem,b0,b1,b2,b3]) rfl ⟨⟨k1,o1,d1,a1,c1,b1_,e1,n1,rfl,?_,HMN.out,λx hx=>.inl (HIN.out x hx)⟩,?_⟩
   ·exact Ib.setO4 (HO1.out w2 hbB) (λx hx e=>by have:=HLT.out x (HIN.out x hx) _ e;omega)
   ·clear hbA hb1 hb2
    (repeat (first | with_reducible exact Below.refl _ _ | with_reducible assumption | with_reducible refine Bv (by first | exact A4i _ | (simp;done) | (simp;omega) | omega) ?_ _ | with_reducible refine Bl ?_ _ | with_reducible refine G9 ?_ _ | with_reducible refine Ij ?_ | with_reducible refine G7 ?_ _ _ | with_reducible refine Cj ?_ (by assumption)))
 ·have hSe:S=X2:=by rw[HS.out];rfl
  have HMN:Hid ((Ah.mk k2 o2 d2 (.slice a2 d2.length c2) (.slice b2_ n2.length e2) n2).net=S):=by show _=_;rw[hSe,HX2.out]
  have HIN:Hid (∀x∈(Ah.mk k2 o2 d2 (.slice a2 d2.length c2) (.slice b2_ n2.length e2) n2).vals,x∈VS):=λx hx=>by rw[HVS.out];exact A4l _ hx
  clear HS hSe HNB HO1 HN2;go_enter Tryz.func100,Tryz.ntmps100
  go_wp2_with (go_at_call 73;refine(HN1.out _ blA).mono ?_;rintro e w1 ⟨rfl,hb1⟩;obtain⟨hc,hf⟩:=Dl hb1;have hza:w.heap.size<w1.heap.size:=A4c (by simp;omega) hb1.size;have hzb:w.heap.size+1<w1.heap.size:=A4c (by simp) hb1.size;have hzc:w.heap.size+1+1<w1.heap.size:=A4c (by simp) hb1.size;have hbA:Below w.heap.size w w1:=blA)
  have b0:w1.cell? ⟨w.heap.size+1+1,0,none⟩=some (.int .i64 0):=by rw[hc _ _ (by simp)];simp[go_sem]
  have b1:w1.cell? ⟨w.heap.size+1+1,1,none⟩=some (.int .i64 0):=by rw[hc _ _ (by simp)];simp[go_sem]
  have b2:w1.cell? ⟨w.heap.size+1+1,2,none⟩=some (.slice none 0 0):=by rw[hc _ _ (by simp)];simp[go_sem]
  have b3:w1.cell? ⟨w.heap.size+1+1,3,none⟩=some (.slice none 0 0):=by rw[hc _ _ (by simp)];simp[go_sem]
  refine bodyPost_ret (v:=.agg #[.int .i64 k2, .int .i64 o2, .slice a2 d2.length c2, .slice b2_ n2.length e2]) (by simp[results,Tryz.results100,go_sem,b0,b1,b2,b3]) rfl ⟨⟨k2,o2,d2,a2,c2,b2_,e2,n2,rfl,?_,HMN.out,λx hx=>.inl (HIN.out x hx)⟩,?_⟩
  ·exact Ib.setO4 (HO2.out w1 hbA) (λx hx e=>by have:=HLT.out x (HIN.out x hx) _ e;omega)
  ·clear hb1
   (repeat (first | with_reducible exact Below.refl _ _ | with_reducible assumption | with_reducible refine Bv (by first | exact A4i _ | (simp;done) | (simp;omega) | omega) ?_ _ | with_reducible refine Bl ?_ _ | with_reducible refine G9 ?_ _ | with_reducible refine Ij ?_ | with_reducible refine G7 ?_ _ _ | with_reducible refine Cj ?_ (by assumption)))
theorem Avw {W:World} {B:Nat} (hB:B=W.heap.size) {u0 u1:Value} {t:TypeId}:∀j u,[u0,u1][j]?=some u->(W.alloc (.cells #[u0,u1] t)).cell? ((⟨B,0,none⟩:Addr).add j)=some u:=by
 subst hB;intro j u h;rw[Addr.add_lit]
 match j,h with
 | 0,h=>simp at h;subst h;simp[go_sem]
 | 1,h=>simp at h;subst h;simp[go_sem]
 | j+2,h=>simp at h
theorem Ou.apart {w w1:World} {base:Nat} {v:Value} {es ks:List Cm} {b1:Nat} (h:Ou w base v es) (hk:∀m∈ks,EOk w1 b1 m) (hb:w.heap.size<=b1) (hp:(Et ks).Pairwise Aside):(v::(Et es++Et ks)).Pairwise Aside:=by
 have hx:=h.lt;have hy:∀y∈Et ks,∀k,y.ownBlock=some k->w.heap.size<=k:=by
  intro y hy k hk2;obtain⟨m,hm,rfl⟩:=Iy.1 hy;exact A4p hb ((hk m hm).lt k hk2).1
 have h2:=h.2.2;rw[A4z] at h2 ⊢;refine⟨λy hy2=>?_,List.pairwise_append.2 ⟨h2.2,hp,λx hx2 y hy2=>Eb (λk hk2=>(hx x (A4h _ hx2) k hk2).2) (hy y hy2)⟩⟩;rcases List.mem_append.1 hy2 with hy2 | hy2
 ·exact h2.1 y hy2
 ·exact Eb (λk hk2=>(hx v (by simp) k hk2).2) (hy y hy2)
theorem Ax8 (x:Stil.Elem) (B base lo:Nat) (ra:Option Addr) (rc:Nat) (ms:List Cm) (av:Value) (w:World) (ih:∀W,Below w.heap.size w W->Calls Tryz.prog 72 #[.agg #[.int .i64 x.op,av]] W λe w'=>∃u,e=.returned (.agg #[.int .i64 x.op,u])/\w'.ownsRow W.heap.size 86 3 u x.args.length (Bz x.args)/\Below W.heap.size W w')
  (hav:Bg w av x.args) (hbx:w.cell? ⟨B,0,none⟩=some (.func (.func 72) #[] #[])) (hB:B<w.heap.size) (hrow:Ou w base (.slice ra ms.length rc) ms) (hl:ms.length+1<=1000000) (hbase:base<=w.heap.size) (hlo:lo<=w.heap.size) (hvl:∀k,(Value.slice ra ms.length rc).ownBlock=some k->lo<=k):
  Calls Tryz.prog 96 #[.slice ra ms.length rc, .agg #[.int .i64 x.op,av], .pointer (some ⟨B,0,none⟩)] w λe w'=>∃(a:Option Addr) (c:Nat) (m:Cm),e=.returned (.slice a (ms.length+1) c)/\m.elem=x/\Ou w' base (.slice a (ms.length+1) c) (ms++[m])/\Below lo w w'/\∀k,(Value.slice a (ms.length+1) c).ownBlock=some k->lo<=k:=by
 have IH:=hid ih;have HMR:=hid hrow;have HVL:=hid hvl;obtain⟨p0,r0,rfl,hz8⟩:=hav;clear hz8;clear ih hrow hvl;go_enter Tryz.func96,Tryz.ntmps96
 go_wp2_with (first | (go_at_call 72;refine(IH.out _ blA).mono ?_;rintro e w1 ⟨u,rfl,g1,hb1⟩;obtain⟨s0,t0,hu⟩:=Af g1;subst hu;have hbw1:Below w.heap.size w w1:=blA;have hle1:=hbw1.size;have HMO:Hid (EOk w1 w.heap.size (Cm.mk x.op x.args (.slice s0 x.args.length t0))/\True):=⟨Joins.ownsRow_le g1 (by simp),trivial⟩;have HMN:Hid ((Cm.mk x.op x.args (.slice s0 x.args.length t0)).elem=x):=rfl;clear g1) | (at_builtin;refine Zv rfl _ _ rfl base lo ra rc ms [(Cm.mk x.op x.args (.slice s0 x.args.length t0))] _ 1 rfl rfl ((HMR.out.below hbw1).below (Aa _ _)) (λ_=>⟨_,rfl,by exact Avw (by simp)⟩) (λm hm=>by rw[List.mem_singleton.1 hm];exact(Joins.ownsRow_le (ownsRow_below HMO.out.1 (Aa _ _)) hbase)) (HMR.out.apart (w1:=w1) (b1:=w.heap.size) (λm hm=>by rw[List.mem_singleton.1 hm];exact HMO.out.1) (A4i _) (List.pairwise_singleton _ _)) (by simp only[A5d];exact hl) (by simp only[World.size_alloc];omega) (by simp only[World.size_alloc];omega) HVL.out ?_;intro a6 c6 w6 hmr6 hb6 hv6;have HM6:Hid (Ou w6 base (.slice a6 (ms.length+1) c6) (ms++[(Cm.mk x.op x.args (.slice s0 x.args.length t0))])):=hmr6;have HV6:Hid (∀k,(Value.slice a6 (ms.length+1) c6).ownBlock=some k->lo<=k):=hv6;clear hmr6 hv6;have hb7:=(((Bl hbw1 _).mono hlo)).trans hb6))
 go_ret;exact⟨a6,c6,_,rfl,HMN.out,HM6.out,hb7,HV6.out⟩
theorem A00 (es:List Stil.Elem) (ih:∀x∈es,∀(av:Value) (w:World),Bg w av x.args->Calls Tryz.prog 72 #[.agg #[.int .i64 x.op,av]] w λe w'=>∃u,e=.returned (.agg #[.int .i64 x.op,u])/\w'.ownsRow w.heap.size 86 3 u x.args.length (Bz x.args)/\Below w.heap.size w w')
  (B:Nat) (v:Value) (w:World) (hat:Ef w v es) (hl:es.length<=999999) (hbx:w.cell? ⟨B,0,none⟩=some (.func (.func 72) #[] #[])) (hB:B<w.heap.size):
  Calls Tryz.prog 95 #[v, .slice none 0 0, .func (.func 96) #[] #[.pointer (some ⟨B,0,none⟩)]] w λe w'=>∃(a:Option Addr) (c:Nat) (ms:List Cm),e=.returned (.slice a ms.length c)/\ms.map Cm.elem=es/\Ou w' w.heap.size (.slice a ms.length c) ms/\Below w.heap.size w w':=by
 obtain⟨a,cap,rfl,hc⟩:=hat;have HA:=hid hc;have IH:=hid ih;have HBX:=hid hbx;clear hc ih hbx;go_enter Tryz.func95,Tryz.ntmps95
 go_wp2
 go_loopw [1,11] (λd i wr=>∃(j:Nat) (ms:List Cm) (ra:Option Addr) (rc:Nat),j<=es.length/\i=.int .i64 j/\d=.slice ra ms.length rc/\ms.map Cm.elem=(es.take j)/\Ou wr w.heap.size (.slice ra ms.length rc) ms/\Below w.heap.size w wr) (λ_ i _=>es.length - (intOf i).toNat)
 case atStart=>exact⟨0,[],none,0,by omega,rfl,rfl,rfl,Ou.nil _ _,Below.refl _ _⟩
 case round=>
  obtain⟨j,ms,ra,rc,hj,rfl,rfl,hmn,hmr,hb⟩:=hrel;have HMN:=hid hmn;have HMR:=hid hmr;clear hmn hmr;by_cases hlt:j<es.length
  ·have hml:ms.length=j:=by
    have h1:=congrArg List.length HMN.out;simp only[A4t,List.length_take] at h1;omega
   obtain⟨b,o,rfl,hbl,hn⟩:=HA.out j hlt;obtain⟨x0,av,x1,hav⟩:=hn.below hb hbl;have HTS:=hid (A4w hlt);have HI:Hid (∀W,Below wr.heap.size wr W->Calls Tryz.prog 96 #[.slice ra ms.length rc, .agg #[.int .i64 es[j].op,av], .pointer (some ⟨B,0,none⟩)] W λe w'=>∃(a:Option Addr) (c:Nat) (m:Cm),e=.returned (.slice a (ms.length+1) c)/\m.elem=es[j]/\Ou w' w.heap.size (.slice a (ms.length+1) c) (ms++[m])/\Below w.heap.size W w'/\∀k,(Value.slice a (ms.length+1) c).ownBlock=some k->w.heap.size<=k):=by
    intro W hW;have hbW:=hb.trans (hW.mono hb.size);exact Ax8 es[j] B w.heap.size w.heap.size ra rc ms av W (λV hV=>IH.out es[j] (A4k hlt) av V ((hav.below hW).below hV)) (hav.below hW) ((hbW.cell (p:=⟨B,0,none⟩) hB).trans HBX.out) (A4c hB hbW.size) (HMR.out.below hW) (by omega) hbW.size hbW.size (λk hk=>(HMR.out.1.lt k hk).1)
   obtain⟨x,hx⟩:∃x,x=es[j]:=⟨_,rfl⟩
   rw[<-hx] at HI x0 hav HTS;obtain⟨p0,r0,rfl,hz8⟩:=hav;clear hz8;have hb0:=A4c hbl hb.size;clear hx hn hml hbl
   go_wp2_with (go_at_call 96;refine(HI.out _ blA).mono ?_;rintro e w2 ⟨a2,c2,m,rfl,hmn2,hmr2,hb2,hv2⟩;have hb3:=(show Below w.heap.size w _ from hb.trans ((show Below wr.heap.size wr _ from blA).mono hb.size)).trans hb2;have HN2:=hid hmn2;have HR2:=hid hmr2;clear hmn2 hmr2 hv2)
   refine⟨⟨j+1,ms++[m],a2,c2,by omega,by go_num,by simp,?_,by rw[A4d];exact HR2.out,hb3⟩,by simp[intOf];omega⟩;rw[HTS.out,A4r,HMN.out,List.map_singleton,HN2.out]
  ·obtain rfl:j=es.length:=by omega
   have hmn:=HMN.out;rw[List.take_length] at hmn;have HMN2:=hid hmn;clear hmn
   go_wp2
   go_ret;exact⟨ra,rc,ms,rfl,HMN2.out,HMR.out,hb⟩
theorem Alk (es:List Stil.Elem) (ih:∀x∈es,∀(av:Value) (w:World),Bg w av x.args->Calls Tryz.prog 72 #[.agg #[.int .i64 x.op,av]] w λe w'=>∃u,e=.returned (.agg #[.int .i64 x.op,u])/\w'.ownsRow w.heap.size 86 3 u x.args.length (Bz x.args)/\Below w.heap.size w w')
  (v:Value) (w:World) (hat:Ef w v es) (hl:es.length<=999999):
  Calls Tryz.prog 71 #[v, .func (.func 72) #[] #[]] w λe w'=>∃(a:Option Addr) (c:Nat) (ms:List Cm),e=.returned (.slice a ms.length c)/\ms.map Cm.elem=es/\Ou w' w.heap.size (.slice a ms.length c) ms/\Below w.heap.size w w':=by
 have HF:=hid (λW B h h1 h2=>A00 es ih B v W (hat.below h) hl h1 h2);obtain⟨p0,r0,rfl,hz8⟩:=hat;clear hz8 ih;go_enter Tryz.func71,Tryz.ntmps71
 go_wp2_with (go_at_call 95;refine(HF.out _ _ blA (by simp[go_sem]) (by simp)).mono ?_;rintro e w1 ⟨ra,rc,ms,rfl,hmn,hmr,hb1⟩;have HMN:=hid hmn;have HMR:Hid (Ou w1 _ (.slice ra ms.length rc) ms):=hmr;clear hmn hmr)
 go_ret;exact⟨ra,rc,ms,rfl,HMN.out,HMR.out.le (by simp),blA⟩
theorem A1b {W:World} {B:Nat} (hB:B=W.heap.size) {u0 u1 u2 u3 u4 u5:Value} {t:TypeId}:∀j u,[u0,u1,u2,u3,u4,u5][j]?=some u->(W.alloc (.cells #[u0,u1,u2,u3,u4,u5] t)).cell? ((⟨B,0,none⟩:Addr).add j)=some u:=by
 subst hB;intro j u h;rw[Addr.add_lit]
 match j,h with
 | 0,h=>simp at h;subst h;simp[go_sem]
 | 1,h=>simp at h;subst h;simp[go_sem]
 | 2,h=>simp at h;subst h;simp[go_sem]
 | 3,h=>simp at h;subst h;simp[go_sem]
 | 4,h=>simp at h;subst h;simp[go_sem]
 | 5,h=>simp at h;subst h;simp[go_sem]
 | j+6,h=>simp at h
theorem Ax9 (x:Stil.Arm) (B base lo:Nat) (ra:Option Addr) (rc:Nat) (ms:List Au) (av nv cv kv:Value) (w:World) (ih:∀W,Below w.heap.size w W->Calls Tryz.prog 45 #[.agg #[.int .i64 x.net.kind, .int .i64 x.net.one.op,av,nv,cv,kv]] W λe w'=>Adt w' W.heap.size (Dc x) e/\Below W.heap.size W w')
  (hav:Bg w av x.net.one.args) (hnv:Dq w nv x.net.kids) (hcv:Ef w cv x.coils) (hkv:Dv w kv x.kids) (hbx:w.cell? ⟨B,0,none⟩=some (.func (.func 45) #[] #[])) (hB:B<w.heap.size) (hrow:Na w base (.slice ra ms.length rc) ms) (hl:ms.length+1<=1000000) (hbase:base<=w.heap.size) (hlo:lo<=w.heap.size) (hvl:∀k,(Value.slice ra ms.length rc).ownBlock=some k->lo<=k):
  Calls Tryz.prog 70 #[.slice ra ms.length rc, .agg #[.int .i64 x.net.kind, .int .i64 x.net.one.op,av,nv,cv,kv], .pointer (some ⟨B,0,none⟩)] w λe w'=>∃(a:Option Addr) (c:Nat) (m:Au),e=.returned (.slice a (ms.length+1) c)/\m.arm=Dc x/\Na w' base (.slice a (ms.length+1) c) (ms++[m])/\Below lo w w'/\∀k,(Value.slice a (ms.length+1) c).ownBlock=some k->lo<=k:=by
 have IH:=hid ih;have HMR:=hid hrow;have HVL:=hid hvl;obtain⟨p0,r0,rfl,hz6⟩:=hav;obtain⟨p1,r1,rfl,hz7⟩:=hnv;obtain⟨p2,r2,rfl,hz8⟩:=hcv;obtain⟨p3,r3,rfl,hz9⟩:=hkv;clear hz6 hz7 hz8 hz9;clear ih hrow hvl;go_enter Tryz.func70,Tryz.ntmps70
 go_wp2_with (first | (go_at_call 45;refine(IH.out _ blA).mono ?_;rintro e w1 ⟨⟨k,op,ds,a1,c1,ns,a2,c2,cs,a3,c3,ks,a4,c4,rfl,hmo,hmn⟩,hb1⟩;have hbw1:Below w.heap.size w w1:=blA;have hle1:=hbw1.size;have HMO:Hid (Hy w1 w.heap.size (Au.mk ⟨k,op,ds, .slice a1 ds.length c1, .slice a2 ns.length c2,ns⟩ (.slice a3 cs.length c3) cs (.slice a4 ks.length c4) ks)):=hmo.le (by simp);have HMN:=hid hmn;clear hmo hmn) | (at_builtin;refine Ut rfl _ _ rfl base lo ra rc ms [(Au.mk ⟨k,op,ds, .slice a1 ds.length c1, .slice a2 ns.length c2,ns⟩ (.slice a3 cs.length c3) cs (.slice a4 ks.length c4) ks)] _ 1 rfl rfl ((HMR.out.below hbw1).below (Aa _ _)) (λ_=>⟨_,rfl,by exact A1b (by simp)⟩) (λm hm=>by rw[List.mem_singleton.1 hm];exact((HMO.out.1.le hbase).below (Aa _ _))) (HMR.out.apart (w1:=w1) (b1:=w.heap.size) (λm hm=>by rw[List.mem_singleton.1 hm];exact HMO.out.1) (A4i _) (by rw[L8];exact HMO.out.2)) (by simp only[A5d];exact hl) (by simp only[World.size_alloc];omega) (by simp only[World.size_alloc];omega) HVL.out ?_;intro a6 c6 w6 hmr6 hb6 hv6;have HM6:Hid (Na w6 base (.slice a6 (ms.length+1) c6) (ms++[(Au.mk ⟨k,op,ds, .slice a1 ds.length c1, .slice a2 ns.length c2,ns⟩ (.slice a3 cs.length c3) cs (.slice a4 ks.length c4) ks)])):=hmr6;have HV6:Hid (∀k,(Value.slice a6 (ms.length+1) c6).ownBlock=some k->lo<=k):=hv6;clear hmr6 hv6;have hb7:=(((Bl hbw1 _).mono hlo)).trans hb6))
 go_ret;exact⟨a6,c6,_,rfl,HMN.out,HM6.out,hb7,HV6.out⟩
theorem A01 (es:List Stil.Arm) (ih:∀x∈es,∀(av nv cv kv:Value) (w:World),Bg w av x.net.one.args->Dq w nv x.net.kids->Ef w cv x.coils->Dv w kv x.kids->Calls Tryz.prog 45 #[.agg #[.int .i64 x.net.kind, .int .i64 x.net.one.op,av,nv,cv,kv]] w λe w'=>Adt w' w.heap.size (Dc x) e/\Below w.heap.size w w')
  (B:Nat) (v:Value) (w:World) (hat:Dv w v es) (hl:es.length<=999999) (hbx:w.cell? ⟨B,0,none⟩=some (.func (.func 45) #[] #[])) (hB:B<w.heap.size):
  Calls Tryz.prog 69 #[v, .slice none 0 0, .func (.func 70) #[] #[.pointer (some ⟨B,0,none⟩)]] w λe w'=>∃(a:Option Addr) (c:Nat) (ms:List Au),e=.returned (.slice a ms.length c)/\ms.map Au.arm=es.map Dc/\Na w' w.heap.size (.slice a ms.length c) ms/\Below w.heap.size w w':=by
 obtain⟨a,cap,rfl,hc⟩:=hat;have HA:=hid hc;have IH:=hid ih;have HBX:=hid hbx;clear hc ih hbx;go_enter Tryz.func69,Tryz.ntmps69
 go_wp2
 go_loopw [1,11] (λd i wr=>∃(j:Nat) (ms:List Au) (ra:Option Addr) (rc:Nat),j<=es.length/\i=.int .i64 j/\d=.slice ra ms.length rc/\ms.map Au.arm=(es.take j).map Dc/\Na wr w.heap.size (.slice ra ms.length rc) ms/\Below w.heap.size w wr) (λ_ i _=>es.length - (intOf i).toNat)
 case atStart=>exact⟨0,[],none,0,by omega,rfl,rfl,rfl,Na.nil _ _,Below.refl _ _⟩
 case round=>
  obtain⟨j,ms,ra,rc,hj,rfl,rfl,hmn,hmr,hb⟩:=hrel;have HMN:=hid hmn;have HMR:=hid hmr;clear hmn hmr;by_cases hlt:j<es.length
  ·have hml:ms.length=j:=by
    have h1:=congrArg List.length HMN.out;simp only[A4t,List.length_take] at h1;omega
   obtain⟨b,o,rfl,hbl,hn⟩:=HA.out j hlt;obtain⟨hna,cv,kv,x4,x5,hcv,hkv⟩:=(Pg.below hb _ _ _ hn hbl).open;obtain⟨x0,x1,av,nv,x2,x3,hav,hnv⟩:=hna.open;have HTS:=hid (A4w hlt);have HI:Hid (∀W,Below wr.heap.size wr W->Calls Tryz.prog 70 #[.slice ra ms.length rc, .agg #[.int .i64 es[j].net.kind, .int .i64 es[j].net.one.op,av,nv,cv,kv], .pointer (some ⟨B,0,none⟩)] W λe w'=>∃(a:Option Addr) (c:Nat) (m:Au),e=.returned (.slice a (ms.length+1) c)/\m.arm=Dc es[j]/\Na w' w.heap.size (.slice a (ms.length+1) c) (ms++[m])/\Below w.heap.size W w'/\∀k,(Value.slice a (ms.length+1) c).ownBlock=some k->w.heap.size<=k):=by
    intro W hW;have hbW:=hb.trans (hW.mono hb.size);exact Ax9 es[j] B w.heap.size w.heap.size ra rc ms av nv cv kv W (λV hV=>IH.out es[j] (A4k hlt) av nv cv kv V ((hav.below hW).below hV) ((hnv.below hW).below hV) ((hcv.below hW).below hV) ((hkv.below hW).below hV)) (hav.below hW) (hnv.below hW) (hcv.below hW) (hkv.below hW) ((hbW.cell (p:=⟨B,0,none⟩) hB).trans HBX.out) (A4c hB hbW.size) (HMR.out.below hW) (by omega) hbW.size hbW.size (λk hk=>(HMR.out.1.lt k hk).1)
   obtain⟨x,hx⟩:∃x,x=es[j]:=⟨_,rfl⟩
   rw[<-hx] at HI x0 x1 hav hnv hcv hkv HTS;obtain⟨p0,r0,rfl,hz6⟩:=hav;obtain⟨p1,r1,rfl,hz7⟩:=hnv;obtain⟨p2,r2,rfl,hz8⟩:=hcv;obtain⟨p3,r3,rfl,hz9⟩:=hkv;clear hz6 hz7 hz8 hz9 hna;have hb0:=A4c hbl hb.size;clear hx hn hml hbl
   go_wp2_with (go_at_call 70;refine(HI.out _ blA).mono ?_;rintro e w2 ⟨a2,c2,m,rfl,hmn2,hmr2,hb2,hv2⟩;have hb3:=(show Below w.heap.size w _ from hb.trans ((show Below wr.heap.size wr _ from blA).mono hb.size)).trans hb2;have HN2:=hid hmn2;have HR2:=hid hmr2;clear hmn2 hmr2 hv2)
   refine⟨⟨j+1,ms++[m],a2,c2,by omega,by go_num,by simp,?_,by rw[A4d];exact HR2.out,hb3⟩,by simp[intOf];omega⟩;rw[HTS.out,A4r,A4r,HMN.out,List.map_singleton,List.map_singleton,HN2.out]
  ·obtain rfl:j=es.length:=by omega
   have hmn:=HMN.out;rw[List.take_length] at hmn;have HMN2:=hid hmn;clear hmn
   go_wp2
   go_ret;exact⟨ra,rc,ms,rfl,HMN2.out,HMR.out,hb⟩
theorem Acx (es:List Stil.Arm) (ih:∀x∈es,∀(av nv cv kv:Value) (w:World),Bg w av x.net.one.args->Dq w nv x.net.kids->Ef w cv x.coils->Dv w kv x.kids->Calls Tryz.prog 45 #[.agg #[.int .i64 x.net.kind, .int .i64 x.net.one.op,av,nv,cv,kv]] w λe w'=>Adt w' w.heap.size (Dc x) e/\Below w.heap.size w w')
  (v:Value) (w:World) (hat:Dv w v es) (hl:es.length<=999999):
  Calls Tryz.prog 44 #[v, .func (.func 45) #[] #[]] w λe w'=>∃(a:Option Addr) (c:Nat) (ms:List Au),e=.returned (.slice a ms.length c)/\ms.map Au.arm=es.map Dc/\Na w' w.heap.size (.slice a ms.length c) ms/\Below w.heap.size w w':=by
 have HF:=hid (λW B h h1 h2=>A01 es ih B v W (hat.below h) hl h1 h2);obtain⟨p0,r0,rfl,hz8⟩:=hat;clear hz8 ih;go_enter Tryz.func44,Tryz.ntmps44
 go_wp2_with (go_at_call 69;refine(HF.out _ _ blA (by simp[go_sem]) (by simp)).mono ?_;rintro e w1 ⟨ra,rc,ms,rfl,hmn,hmr,hb1⟩;have HMN:=hid hmn;have HMR:Hid (Na w1 _ (.slice ra ms.length rc) ms):=hmr;clear hmn hmr)
 go_ret;exact⟨ra,rc,ms,rfl,HMN.out,HMR.out.le (by simp),blA⟩
end Go.Proofs.YtbfljjcnbbmoaaaGreatDoor
