import Derived.Test.YtbfljjcnbbmoaaaGreatDoorGt
import Derived.Deep.RegionHeld3
import Derived.Test.YtbfljjcnbbmoaaaGreatDoorY6b
set_option maxHeartbeats 4000000
set_option maxRecDepth 100000
namespace Go.Proofs.YtbfljjcnbbmoaaaGreatDoor
open Stil
open Go.RowKit Go.Sort Go.BigFrame
theorem A0d (es:List Stil.Elem) (v:Value) (w:World) (hat:Ef w v es) (hl:es.length<=999999) (hf:∀x∈es,x.fits):
  Calls Tryz.prog 61 #[v] w λe w'=>∃(a:Option Addr) (c:Nat) (ms:List Cm),e=.returned (.slice a ms.length c)/\ms.map Cm.elem=es/\Ou w' w.heap.size (.slice a ms.length c) ms/\Below w.heap.size w w':=by
 obtain⟨a,cap,rfl,hc⟩:=hat;have HA:=hid hc;have HF:=hid hf;clear hc hf;go_enter Tryz.func61,Tryz.ntmps61
 go_wp2
 go_loopw [3,4] (λd i wr=>∃(j:Nat) (ms:List Cm) (ra:Option Addr) (rc:Nat),j<=es.length/\i=.int .i64 j/\d=.slice ra ms.length rc/\ms.map Cm.elem=(es.take j)/\Ou wr w.heap.size (.slice ra ms.length rc) ms/\Below w.heap.size w wr) (λ_ i _=>es.length - (intOf i).toNat)
 case atStart=>
  refine⟨0,[],some ⟨w.heap.size,0,none⟩,0,by omega,rfl,rfl,rfl,⟨?_,(λm hm=>by cases hm),List.pairwise_singleton _ _⟩,blA⟩;have:=World.ownsRow_lit (base:=w.heap.size) (e:=49) (size:=2) w #[] 0 (by simp) (by unfold maxLen;omega) rfl
  simpa[Fq] using this
 case round=>
  obtain⟨j,ms,ra,rc,hj,rfl,rfl,hmn,hmr,hb⟩:=hrel;have HMN:=hid hmn;have HMR:=hid hmr;clear hmn hmr;by_cases hlt:j<es.length
  ·have hml:ms.length=j:=by
    have h1:=congrArg List.length HMN.out;simp only[A4t,List.length_take] at h1;omega
   obtain⟨b,o,rfl,hbl,hn⟩:=HA.out j hlt;obtain⟨x0,av,x1,hav⟩:=hn.below hb hbl;have hfx:=(HF.out _ (A4k hlt)).2.1;have HTS:=hid (A4w hlt);obtain⟨x,hx⟩:∃x,x=es[j]:=⟨_,rfl⟩
   rw[<-hx] at x0 hav HTS hfx;have hav2:=hav;obtain⟨p0,r0,rfl,hz8⟩:=hav;clear hz8;have HAV:=hid (hav2.below (Aa wr (.cells #[] 86)).drew);have hb0:=A4c hbl hb.size;have HOW:Hid (((wr.alloc (.cells #[] 86)).drew).ownsRow wr.heap.size 86 3 (.slice (some ⟨wr.heap.size,0,none⟩) 0 0) 0 []):=by
    have:=World.ownsRow_lit (base:=wr.heap.size) (e:=86) (size:=3) wr #[] 0 (A4i _) (by unfold maxLen;omega) rfl
    have h2:(wr.alloc (.cells #[] 86)).ownsRow wr.heap.size 86 3 (.slice (some ⟨wr.heap.size,0,none⟩) 0 0) 0 []:=by simpa using this
    exact h2
   have HCB:=hid (λW (hg:((wr.alloc (.cells #[] 86)).drew).grownBy W (some wr.heap.size))=>(Aa wr (.cells #[] 86)).drew.grown hg (by simp) (λk hk=>by cases hk;exact A4i _));have HVL:=hid (λk hk=>(HMR.out.1.lt k hk).1);have HAP:Hid (∀u:Value,(∀q,u.ownBlock=some q->wr.heap.size<=q)->(Value.slice ra ms.length rc::(Et ms++Et [Cm.mk x.op x.args u])).Pairwise Aside):=by
    intro u hu;have h2:=HMR.out.2.2;rw[A4z] at h2 ⊢;have hnew:=λy hy=>Eb (n:=wr.heap.size) (λk hk=>(HMR.out.lt y hy k hk).2) hu
    refine⟨λy hy=>?_,List.pairwise_append.2 ⟨h2.2,List.pairwise_singleton _ _,λy hy z hz=>?_⟩⟩
    ·rcases List.mem_append.1 hy with hy | hy
     ·exact h2.1 y hy
     ·rw[show y=u from by simpa[Et] using hy];exact hnew _ (by simp)
    ·rw[show z=u from by simpa[Et] using hz];exact hnew y (A4h _ hy)
   have hl2:ms.length+[Cm.mk x.op x.args (.slice none 0 0)].length<=1000000:=by simp only[A5d];omega
   have hj1:(0:Int)<=(j:Int):=by omega
   have hj2:(j:Int)<(es.length:Int):=by omega
   clear hx hn hav2 hml;go_upto_region 5 with fail
   go_region_held3 (λW'=>(W'.cell? ⟨b,o+j*2,none⟩=some (.int .i64 x.op)/\W'.cell? ⟨b,o+j*2+1,none⟩=some (.slice p0 x.args.length r0))) (first | with_reducible assumption | with_reducible exact⟨Hg.trans x0,Hg.trans x1⟩ | with_reducible exact⟨Hg.trans ((Ed hb0).trans x0),Hg.trans ((Ed hb0).trans x1)⟩ | with_reducible exact⟨(Ed hb05).trans hS5.1,(Ed hb05).trans hS5.2⟩ | skip) (first | (refine Ox rfl _ _ rfl wr.heap.size wr.heap.size x.args rfl HOW.out p0 r0 rfl HAV.out hfx (by show wr.heap.size<=(wr.alloc _).heap.size;simp) ?_;intro u w5 g5 hg5;obtain⟨s0,t0,hu⟩:=Af g5;subst hu;have HG5:=hid (Joins.ownsRow_le g5 hb.size);have HLO5:=hid ((λq hq=>(g5.lt q hq).1));have hC5:=HCB.out w5 hg5;have hS5:(w5.cell? ⟨b,o+j*2,none⟩=some (.int .i64 x.op)/\w5.cell? ⟨b,o+j*2+1,none⟩=some (.slice p0 x.args.length r0)):=⟨(hC5.cell (p:=⟨b,o+j*2,none⟩) hb0).trans x0,(hC5.cell (p:=⟨b,o+j*2+1,none⟩) hb0).trans x1⟩;have hb05:=A4c hb0 hC5.size;clear g5) | (refine Vd rfl _ _ rfl w.heap.size w.heap.size ra rc ms [(Cm.mk x.op x.args (.slice s0 x.args.length t0))] _ 1 rfl rfl ((HMR.out.below hC5).below (Aa _ _)) (λ_=>⟨_,rfl,by exact Avw (by simp)⟩) (λm hm=>by rw[List.mem_singleton.1 hm];exact(ownsRow_below HG5.out (Aa _ _))) (HAP.out _ HLO5.out) hl2 (by have:=hC5.size;have:=hb.size;simp;omega) (by have:=hC5.size;have:=hb.size;simp;omega) HVL.out ?_;intro a6 c6 w6 hmr6 hb6 hv6;have HM6:Hid (Ou w6 w.heap.size (.slice a6 (ms.length+1) c6) (ms++[(Cm.mk x.op x.args (.slice s0 x.args.length t0))])):=hmr6;have HB6:=hid ((Bl (hb.trans (hC5.mono hb.size)) _).trans hb6);have hS6:(w6.cell? ⟨b,o+j*2,none⟩=some (.int .i64 x.op)/\w6.cell? ⟨b,o+j*2+1,none⟩=some (.slice p0 x.args.length r0)):=⟨((hb6.cell (p:=⟨b,o+j*2,none⟩) hbl).trans (Ed hb05)).trans hS5.1,((hb6.cell (p:=⟨b,o+j*2+1,none⟩) hbl).trans (Ed hb05)).trans hS5.2⟩;clear hmr6 hb6 hv6))
   all_goals
    go_wp2
    refine⟨⟨j+1,ms++[Cm.mk x.op x.args (.slice s0 x.args.length t0)],a6,c6,by omega,by go_num,by simp,?_,by rw[A4d];exact HM6.out,HB6.out⟩,by simp[intOf];omega⟩;rw[HTS.out,A4r,HMN.out,List.map_singleton];rfl
  ·obtain rfl:j=es.length:=by omega
   have hmn:=HMN.out;rw[List.take_length] at hmn;have HMN2:=hid hmn;clear hmn
   go_wp2
   go_ret;exact⟨ra,rc,ms,rfl,HMN2.out,HMR.out,hb⟩
theorem At9 {w:World} {base:Nat} {v:Value} {ms:List Ah} (h1:w.ownsRow base 52 4 v ms.length (F9 ms)) (h2:∀m∈ms,MOk w base m):Rh base w v (ms.map Ah.net):=by
 have:=(MOk.from (Ah.mk 0 0 [] (.slice none 0 0) v ms) ((Hq _ _ _).2 ⟨World.ownsRow_nil _ _ _ _,h1,h2⟩)).2
 rwa [Ah.net_eq] at this
theorem V5 (n:Stil.Net) (av kv:Value) (w:World) (hav:Bg w av n.one.args) (hkv:Dq w kv n.kids) (hf:Cc n):
  Calls Tryz.prog 62 #[.agg #[.int .i64 n.kind, .int .i64 n.one.op,av,kv]] w λe w'=>e=.returned (.bool (Aq n))/\Below w.heap.size w w':=by
 obtain⟨_,he,hl,_⟩:=Df hf;exact Yu n av kv w hav hkv (by have:=he.2.1;omega) (by omega)
theorem A2d (k1 o1:Int) (d1:List Stil.Dev) (a1:Option Addr) (c1:Nat) (b1_:Option Addr) (e1:Nat) (n1:List Ah) (k2 o2:Int) (d2:List Stil.Dev) (a2:Option Addr) (c2:Nat) (b2_:Option Addr) (e2:Nat) (n2:List Ah) (base:Nat) (w:World)
  (h1:MOk w base (Ah.mk k1 o1 d1 (.slice a1 d1.length c1) (.slice b1_ n1.length e1) n1)) (h2:MOk w base (Ah.mk k2 o2 d2 (.slice a2 d2.length c2) (.slice b2_ n2.length e2) n2)) (hp:((Ah.mk k1 o1 d1 (.slice a1 d1.length c1) (.slice b1_ n1.length e1) n1).vals++(Ah.mk k2 o2 d2 (.slice a2 d2.length c2) (.slice b2_ n2.length e2) n2).vals).Pairwise Aside) (hbase:base<=w.heap.size) (hs:Stil.sizes [(Ah.mk k1 o1 d1 (.slice a1 d1.length c1) (.slice b1_ n1.length e1) n1).net,(Ah.mk k2 o2 d2 (.slice a2 d2.length c2) (.slice b2_ n2.length e2) n2).net]<=999999) (hg1:Jn (Ah.mk k1 o1 d1 (.slice a1 d1.length c1) (.slice b1_ n1.length e1) n1).net) (hg2:Jn (Ah.mk k2 o2 d2 (.slice a2 d2.length c2) (.slice b2_ n2.length e2) n2).net) (hf1:Cc (Ah.mk k1 o1 d1 (.slice a1 d1.length c1) (.slice b1_ n1.length e1) n1).net) (hf2:Cc (Ah.mk k2 o2 d2 (.slice a2 d2.length c2) (.slice b2_ n2.length e2) n2).net):
  Calls Tryz.prog 64 #[.agg #[.int .i64 k1, .int .i64 o1, .slice a1 d1.length c1, .slice b1_ n1.length e1], .agg #[.int .i64 k2, .int .i64 o2, .slice a2 d2.length c2, .slice b2_ n2.length e2]] w λe w'=>Ahe w' base ((Ah.mk k1 o1 d1 (.slice a1 d1.length c1) (.slice b1_ n1.length e1) n1).vals++(Ah.mk k2 o2 d2 (.slice a2 d2.length c2) (.slice b2_ n2.length e2) n2).vals) w.heap.size (Ji (Ah.mk k1 o1 d1 (.slice a1 d1.length c1) (.slice b1_ n1.length e1) n1).net (Ah.mk k2 o2 d2 (.slice a2 d2.length c2) (.slice b2_ n2.length e2) n2).net) e/\Below w.heap.size w w':=by
 obtain⟨f1,f2⟩:=MOk.from _ h1;obtain⟨f3,f4⟩:=MOk.from _ h2;have HN1:Hid (∀W,Below w.heap.size w W->Calls Tryz.prog 62 #[.agg #[.int .i64 k1, .int .i64 o1, .slice a1 d1.length c1, .slice b1_ n1.length e1]] W λe w'=>e=.returned (.bool (Aq (Ah.mk k1 o1 d1 (.slice a1 d1.length c1) (.slice b1_ n1.length e1) n1).net))/\Below W.heap.size W w'):=by
  intro W h;have:=V5 (Ah.mk k1 o1 d1 (.slice a1 d1.length c1) (.slice b1_ n1.length e1) n1).net _ _ W (f1.at.below h) (f2.at.below h) hf1
  have e:=Ah.net_eq (Ah.mk k1 o1 d1 (.slice a1 d1.length c1) (.slice b1_ n1.length e1) n1);have ee1:(Ah.mk k1 o1 d1 (.slice a1 d1.length c1) (.slice b1_ n1.length e1) n1).net.kind=k1:=by rw[e]
  have ee2:(Ah.mk k1 o1 d1 (.slice a1 d1.length c1) (.slice b1_ n1.length e1) n1).net.one.op=o1:=by rw[e]
  rw[ee1,ee2] at this;exact this
 have HN2:Hid (∀W,Below w.heap.size w W->Calls Tryz.prog 62 #[.agg #[.int .i64 k2, .int .i64 o2, .slice a2 d2.length c2, .slice b2_ n2.length e2]] W λe w'=>e=.returned (.bool (Aq (Ah.mk k2 o2 d2 (.slice a2 d2.length c2) (.slice b2_ n2.length e2) n2).net))/\Below W.heap.size W w'):=by
  intro W h;have:=V5 (Ah.mk k2 o2 d2 (.slice a2 d2.length c2) (.slice b2_ n2.length e2) n2).net _ _ W (f3.at.below h) (f4.at.below h) hf2
  have e:=Ah.net_eq (Ah.mk k2 o2 d2 (.slice a2 d2.length c2) (.slice b2_ n2.length e2) n2);have ee1:(Ah.mk k2 o2 d2 (.slice a2 d2.length c2) (.slice b2_ n2.length e2) n2).net.kind=k2:=by rw[e]
  have ee2:(Ah.mk k2 o2 d2 (.slice a2 d2.length c2) (.slice b2_ n2.length e2) n2).net.one.op=o2:=by rw[e]
  rw[ee1,ee2] at this;exact this
 have hp1:=List.pairwise_append.1 hp;have HO1:Hid (∀W,Below w.heap.size w W->Ib W base (Ah.mk k1 o1 d1 (.slice a1 d1.length c1) (.slice b1_ n1.length e1) n1)):=λW h=>⟨h1.below h,hp1.1⟩
 have HO2:Hid (∀W,Below w.heap.size w W->Ib W base (Ah.mk k2 o2 d2 (.slice a2 d2.length c2) (.slice b2_ n2.length e2) n2)):=λW h=>⟨h2.below h,hp1.2.1⟩
 have HLT:Hid (∀x∈(Ah.mk k1 o1 d1 (.slice a1 d1.length c1) (.slice b1_ n1.length e1) n1).vals++(Ah.mk k2 o2 d2 (.slice a2 d2.length c2) (.slice b2_ n2.length e2) n2).vals,∀q,x.ownBlock=some q->q<w.heap.size):=by
  intro x hx q hq;rcases List.mem_append.1 hx with hx | hx
  ·exact(h1.lt _ x hx q hq).2
  ·exact(h2.lt _ x hx q hq).2
 have HNB:Hid (Aq (Ah.mk k1 o1 d1 (.slice a1 d1.length c1) (.slice b1_ n1.length e1) n1).net=false->Aq (Ah.mk k2 o2 d2 (.slice a2 d2.length c2) (.slice b2_ n2.length e2) n2).net=false->∀W,Below w.heap.size w W->Calls Tryz.prog 90 #[.int .i64 2, .slice (some ⟨W.heap.size,0,none⟩) 2 2] (W.alloc (.cells #[.int .i64 k1, .int .i64 o1, .slice a1 d1.length c1, .slice b1_ n1.length e1, .int .i64 k2, .int .i64 o2, .slice a2 d2.length c2, .slice b2_ n2.length e2] 52)) λe w'=>L9 w' (W.alloc (.cells #[.int .i64 k1, .int .i64 o1, .slice a1 d1.length c1, .slice b1_ n1.length e1, .int .i64 k2, .int .i64 o2, .slice a2 d2.length c2, .slice b2_ n2.length e2] 52)).heap.size (Ei 2 (Cb 2 [(Ah.mk k1 o1 d1 (.slice a1 d1.length c1) (.slice b1_ n1.length e1) n1).net,(Ah.mk k2 o2 d2 (.slice a2 d2.length c2) (.slice b2_ n2.length e2) n2).net])) e/\Below (W.alloc (.cells #[.int .i64 k1, .int .i64 o1, .slice a1 d1.length c1, .slice b1_ n1.length e1, .int .i64 k2, .int .i64 o2, .slice a2 d2.length c2, .slice b2_ n2.length e2] 52)).heap.size (W.alloc (.cells #[.int .i64 k1, .int .i64 o1, .slice a1 d1.length c1, .slice b1_ n1.length e1, .int .i64 k2, .int .i64 o2, .slice a2 d2.length c2, .slice b2_ n2.length e2] 52)) w'):=by
  intro t1 t2 W h;have hr:=Jt.pair (h1.below h) (h2.below h) hp (A4p hbase h.size);have hx1:=hg1.resolve_left (by rw[t1];exact Bool.false_ne_true);have hx2:=hg2.resolve_left (by rw[t2];exact Bool.false_ne_true);have hm:[(Ah.mk k1 o1 d1 (.slice a1 d1.length c1) (.slice b1_ n1.length e1) n1).net,(Ah.mk k2 o2 d2 (.slice a2 d2.length c2) (.slice b2_ n2.length e2) n2).net].map Az=[(Ah.mk k1 o1 d1 (.slice a1 d1.length c1) (.slice b1_ n1.length e1) n1).net,(Ah.mk k2 o2 d2 (.slice a2 d2.length c2) (.slice b2_ n2.length e2) n2).net]:=by
   simp only[A4v,List.map_nil];rw[Zb hx1,Zb hx2]
  have hat:Dq (W.alloc (.cells #[.int .i64 k1, .int .i64 o1, .slice a1 d1.length c1, .slice b1_ n1.length e1, .int .i64 k2, .int .i64 o2, .slice a2 d2.length c2, .slice b2_ n2.length e2] 52)) (.slice (some ⟨W.heap.size,0,none⟩) 2 2) [(Ah.mk k1 o1 d1 (.slice a1 d1.length c1) (.slice b1_ n1.length e1) n1).net,(Ah.mk k2 o2 d2 (.slice a2 d2.length c2) (.slice b2_ n2.length e2) n2).net]:=(At9 hr.1 hr.2.1).at
  have:=Azk 2 [(Ah.mk k1 o1 d1 (.slice a1 d1.length c1) (.slice b1_ n1.length e1) n1).net,(Ah.mk k2 o2 d2 (.slice a2 d2.length c2) (.slice b2_ n2.length e2) n2).net] (λx hx av kv V ha hk=>by
   rcases List.mem_cons.1 hx with rfl | hx
   ·exact Ako _ hf1 hx1.2.2 (by simp[Stil.sizes] at hs;omega) av kv V ha hk
   ·rw[List.mem_singleton.1 hx] at ha hk ⊢
    exact Ako _ hf2 hx2.2.2 (by simp[Stil.sizes] at hs;omega) av kv V ha hk) _ _ hat (by simp) (by rw[hm];omega)
  rw[hm] at this;exact this
 obtain⟨S,hS⟩:∃S,S=Ji (Ah.mk k1 o1 d1 (.slice a1 d1.length c1) (.slice b1_ n1.length e1) n1).net (Ah.mk k2 o2 d2 (.slice a2 d2.length c2) (.slice b2_ n2.length e2) n2).net:=⟨_,rfl⟩
 have HS:Hid (S=if Aq (Ah.mk k1 o1 d1 (.slice a1 d1.length c1) (.slice b1_ n1.length e1) n1).net then(Ah.mk k2 o2 d2 (.slice a2 d2.length c2) (.slice b2_ n2.length e2) n2).net else if Aq (Ah.mk k2 o2 d2 (.slice a2 d2.length c2) (.slice b2_ n2.length e2) n2).net then(Ah.mk k1 o1 d1 (.slice a1 d1.length c1) (.slice b1_ n1.length e1) n1).net else Ei 2 (Cb 2 [(Ah.mk k1 o1 d1 (.slice a1 d1.length c1) (.slice b1_ n1.length e1) n1).net,(Ah.mk k2 o2 d2 (.slice a2 d2.length c2) (.slice b2_ n2.length e2) n2).net])):=hS;rw[<-hS];obtain⟨t1,ht1⟩:∃t,t=Aq (Ah.mk k1 o1 d1 (.slice a1 d1.length c1) (.slice b1_ n1.length e1) n1).net:=⟨_,rfl⟩
 obtain⟨t2,ht2⟩:∃t,t=Aq (Ah.mk k2 o2 d2 (.slice a2 d2.length c2) (.slice b2_ n2.length e2) n2).net:=⟨_,rfl⟩
 rw[<-ht1] at HN1 HS HNB;rw[<-ht2] at HN2 HS HNB;obtain⟨VS,hVS⟩:∃VS,VS=(Ah.mk k1 o1 d1 (.slice a1 d1.length c1) (.slice b1_ n1.length e1) n1).vals++(Ah.mk k2 o2 d2 (.slice a2 d2.length c2) (.slice b2_ n2.length e2) n2).vals:=⟨_,rfl⟩
 have HVS:=hid hVS;rw[<-hVS] at HLT ⊢;obtain⟨X1,hX1⟩:∃X,X=(Ah.mk k1 o1 d1 (.slice a1 d1.length c1) (.slice b1_ n1.length e1) n1).net:=⟨_,rfl⟩
 obtain⟨X2,hX2⟩:∃X,X=(Ah.mk k2 o2 d2 (.slice a2 d2.length c2) (.slice b2_ n2.length e2) n2).net:=⟨_,rfl⟩
 have HX1:=hid hX1;have HX2:=hid hX2;rw[<-hX1,<-hX2] at HNB HS;clear hS ht1 ht2 hVS hX1 hX2 f1 f2 f3 f4 h1 h2 hp hp1 hs hf1 hf2 hg1 hg2;cases t1
 ·cases t2
  ·have hSe:S=Ei 2 (Cb 2 [X1,X2]):=by rw[HS.out];rfl
   rw[<-hSe] at HNB;clear HS hSe HO1 HO2;go_enter Tryz.func64,Tryz.ntmps64;go_upto_region 3 with(go_at_call 62;refine(HN1.out _ blA).mono ?_;rintro e w1 ⟨rfl,hb1⟩;obtain⟨hc,hf⟩:=Dl hb1;have hza:w.heap.size<w1.heap.size:=A4c (by simp;omega) hb1.size;have hzb:w.heap.size+1<w1.heap.size:=A4c (by simp) hb1.size;have hzc:w.heap.size+1+1<w1.heap.size:=A4c (by simp) hb1.size;have hbA:Below w.heap.size w w1:=blA)
   go_upto_region 5 with(go_at_call 62;refine(HN2.out _ blA).mono ?_;rintro e w2 ⟨rfl,hb2⟩;obtain⟨hc2,hf2⟩:=Dl hb2;have hzd:=A4c hza hb2.size;have hze:=A4c hzb hb2.size;have hzf:=A4c hzc hb2.size;have hbB:Below w.heap.size w w2:=(by exact hbA.trans (hb2.mono hbA.size)))
   go_wp2_with (go_at_call 90;refine(HNB.out (by trivial) (by trivial) w2 hbB).mono ?_;rintro e w3 ⟨⟨mk,mop,mds,s0,t0,s1,t1,mks,rfl,hmo,hmn⟩,hb3⟩;obtain⟨hc3,hf3⟩:=Dl hb3;have hzg:=A4c (A4c hzf (by simp)) hb3.size;have HMO:=hid (hmo.le (A4p hbase (A4p hbB.size (by simp))));have HMN:=hid hmn;have HW:Hid (∀x∈(Ah.mk mk mop mds (.slice s0 mds.length t0) (.slice s1 mks.length t1) mks).vals,x∈VS\/∀q,x.ownBlock=some q->w2.heap.size<=q):=(λx hx=>.inr (λq hq=>A4p (by simp) (hmo.1.lt _ x hx q hq).1));clear hmo hmn)
   have b0:w3.cell? ⟨w.heap.size+1+1,0,none⟩=some (.int .i64 0):=by rw[hc3 _ _ (A4c hzf (by simp)),Ed hzf,hc2 _ _ hzc,hc _ _ (by simp)];simp[go_sem]
   have b1:w3.cell? ⟨w.heap.size+1+1,1,none⟩=some (.int .i64 0):=by rw[hc3 _ _ (A4c hzf (by simp)),Ed hzf,hc2 _ _ hzc,hc _ _ (by simp)];simp[go_sem]
   have b2:w3.cell? ⟨w.heap.size+1+1,2,none⟩=some (.slice none 0 0):=by rw[hc3 _ _ (A4c hzf (by simp)),Ed hzf,hc2 _ _ hzc,hc _ _ (by simp)];simp[go_sem]
   have b3:w3.cell? ⟨w.heap.size+1+1,3,none⟩=some (.slice none 0 0):=by rw[hc3 _ _ (A4c hzf (by simp)),Ed hzf,hc2 _ _ hzc,hc _ _ (by simp)];simp[go_sem]
   refine bodyPost_ret (v:=.agg #[.int .i64 mk, .int .i64 mop, .slice s0 mds.length t0, .slice s1 mks.length t1]) (by simp[results,Tryz.results64,go_sem,b0,b1,b2,b3]) rfl ⟨⟨mk,mop,mds,s0,t0,s1,t1,mks,rfl,?_,HMN.out,λx hx=>(HW.out x hx).imp id (λh q hq=>by have:=h q hq;omega)⟩,?_⟩
   ·refine Ib.setO4 HMO.out (λx hx e=>?_)
    rcases HW.out x hx with h | h
    ·have:=HLT.out x h _ e;omega
    ·have:=h _ e;omega
   ·have hbC:=(Bl hbB _).trans (hb3.mono (by have:=hbB.size;simp;omega))
    clear hbA hbB hb1 hb2 hb3
    (repeat (first | with_reducible exact Below.refl _ _ | with_reducible assumption | with_reducible refine Bv (by first | exact A4i _ | (simp;done) | (simp;omega) | omega) ?_ _ | with_reducible refine Bl ?_ _ | with_reducible refine G9 ?_ _ | with_reducible refine Ij ?_ | with_reducible refine G7 ?_ _ _ | with_reducible refine Cj ?_ (by assumption)))
  ·have hSe:S=X1:=by rw[HS.out];rfl
   have HMN:Hid ((Ah.mk k1 o1 d1 (.slice a1 d1.length c1) (.slice b1_ n1.length e1) n1).net=S):=by show _=_;rw[hSe,HX1.out]
   have HIN:Hid (∀x∈(Ah.mk k1 o1 d1 (.slice a1 d1.length c1) (.slice b1_ n1.length e1) n1).vals,x∈VS):=λx hx=>by rw[HVS.out];exact A4o _ hx
   clear HS hSe HNB HO2;go_enter Tryz.func64,Tryz.ntmps64;go_upto_region 3 with(go_at_call 62;refine(HN1.out _ blA).mono ?_;rintro e w1 ⟨rfl,hb1⟩;obtain⟨hc,hf⟩:=Dl hb1;have hza:w.heap.size<w1.heap.size:=A4c (by simp;omega) hb1.size;have hzb:w.heap.size+1<w1.heap.size:=A4c (by simp) hb1.size;have hzc:w.heap.size+1+1<w1.heap.size:=A4c (by simp) hb1.size;have hbA:Below w.heap.size w w1:=blA)
   go_wp2_with (go_at_call 62;refine(HN2.out _ blA).mono ?_;rintro e w2 ⟨rfl,hb2⟩;obtain⟨hc2,hf2⟩:=Dl hb2;have hzd:=A4c hza hb2.size;have hze:=A4c hzb hb2.size;have hzf:=A4c hzc hb2.size;have hbB:Below w.heap.size w w2:=(by exact hbA.trans (hb2.mono hbA.size)))
   have b0:w2.cell? ⟨w.heap.size+1+1,0,none⟩=some (.int .i64 0):=by rw[hc2 _ _ hzc,hc _ _ (by simp)];simp[go_sem]
   have b1:w2.cell? ⟨w.heap.size+1+1,1,none⟩=some (.int .i64 0):=by rw[hc2 _ _ hzc,hc _ _ (by simp)];simp[go_sem]
   have b2:w2.cell? ⟨w.heap.size+1+1,2,none⟩=some (.slice none 0 0):=by rw[hc2 _ _ hzc,hc _ _ (by simp)];simp[go_sem]
   have b3:w2.cell? ⟨w.heap.size+1+1,3,none⟩=some (.slice none 0 0):=by rw[hc2 _ _ hzc,hc _ _ (by simp)];simp[go_sem]
   refine bodyPost_ret (v:=.agg #[.int .i64 k1, .int .i64 o1, .slice a1 d1.length c1, .slice b1_ n1.length e1]) (by simp[results,Tryz.results64,go_sem,b0,b1,b2,b3]) rfl ⟨⟨k1,o1,d1,a1,c1,b1_,e1,n1,rfl,?_,HMN.out,λx hx=>.inl (HIN.out x hx)⟩,?_⟩
   ·exact Ib.setO4 (HO1.out w2 hbB) (λx hx e=>by have:=HLT.out x (HIN.out x hx) _ e;omega)
   ·clear hbA hb1 hb2
    (repeat (first | with_reducible exact Below.refl _ _ | with_reducible assumption | with_reducible refine Bv (by first | exact A4i _ | (simp;done) | (simp;omega) | omega) ?_ _ | with_reducible refine Bl ?_ _ | with_reducible refine G9 ?_ _ | with_reducible refine Ij ?_ | with_reducible refine G7 ?_ _ _ | with_reducible refine Cj ?_ (by assumption)))
 ·have hSe:S=X2:=by rw[HS.out];rfl
  have HMN:Hid ((Ah.mk k2 o2 d2 (.slice a2 d2.length c2) (.slice b2_ n2.length e2) n2).net=S):=by show _=_;rw[hSe,HX2.out]
  have HIN:Hid (∀x∈(Ah.mk k2 o2 d2 (.slice a2 d2.length c2) (.slice b2_ n2.length e2) n2).vals,x∈VS):=λx hx=>by rw[HVS.out];exact A4l _ hx
  clear HS hSe HNB HO1 HN2;go_enter Tryz.func64,Tryz.ntmps64
  go_wp2_with (go_at_call 62;refine(HN1.out _ blA).mono ?_;rintro e w1 ⟨rfl,hb1⟩;obtain⟨hc,hf⟩:=Dl hb1;have hza:w.heap.size<w1.heap.size:=A4c (by simp;omega) hb1.size;have hzb:w.heap.size+1<w1.heap.size:=A4c (by simp) hb1.size;have hzc:w.heap.size+1+1<w1.heap.size:=A4c (by simp) hb1.size;have hbA:Below w.heap.size w w1:=blA)
  have b0:w1.cell? ⟨w.heap.size+1+1,0,none⟩=some (.int .i64 0):=by rw[hc _ _ (by simp)];simp[go_sem]
  have b1:w1.cell? ⟨w.heap.size+1+1,1,none⟩=some (.int .i64 0):=by rw[hc _ _ (by simp)];simp[go_sem]
  have b2:w1.cell? ⟨w.heap.size+1+1,2,none⟩=some (.slice none 0 0):=by rw[hc _ _ (by simp)];simp[go_sem]
  have b3:w1.cell? ⟨w.heap.size+1+1,3,none⟩=some (.slice none 0 0):=by rw[hc _ _ (by simp)];simp[go_sem]
  refine bodyPost_ret (v:=.agg #[.int .i64 k2, .int .i64 o2, .slice a2 d2.length c2, .slice b2_ n2.length e2]) (by simp[results,Tryz.results64,go_sem,b0,b1,b2,b3]) rfl ⟨⟨k2,o2,d2,a2,c2,b2_,e2,n2,rfl,?_,HMN.out,λx hx=>.inl (HIN.out x hx)⟩,?_⟩
  ·exact Ib.setO4 (HO2.out w1 hbA) (λx hx e=>by have:=HLT.out x (HIN.out x hx) _ e;omega)
  ·clear hb1
   (repeat (first | with_reducible exact Below.refl _ _ | with_reducible assumption | with_reducible refine Bv (by first | exact A4i _ | (simp;done) | (simp;omega) | omega) ?_ _ | with_reducible refine Bl ?_ _ | with_reducible refine G9 ?_ _ | with_reducible refine Ij ?_ | with_reducible refine G7 ?_ _ _ | with_reducible refine Cj ?_ (by assumption)))
end Go.Proofs.YtbfljjcnbbmoaaaGreatDoor
