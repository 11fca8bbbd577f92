import Derived.Test.YtbfljjcnbbmoaaaGreatDoorGt
import Derived.Deep.RegionHeld3
import Derived.Test.YtbfljjcnbbmoaaaGreatDoorY6b
set_option maxHeartbeats 4000000
set_option maxRecDepth 100000
namespace Go.Proofs.YtbfljjcnbbmoaaaGreatDoor
open Stil
open Go.RowKit Go.Sort Go.BigFrame
theorem A0j (es:List Stil.Elem)(v:Value)(w:World)(hat:En w v es)(hl:es.length<=999999)(hf:∀x∈es,x.fits):
  Calls Tryz.prog 61 #[v] w λe w'=>∃(a:Option Addr) (c:Nat) (ms:List Df),e=.returned (.slice a ms.length c)/\ms.map Df.elem=es/\Pg w' w.heap.size (.slice a ms.length c) ms/\Below w.heap.size w w':=by
 obtain⟨a,cap,rfl,hc⟩:=hat;have HA:=hid hc;have HF:=hid hf;clear hc hf;go_enter Tryz.func61,Tryz.ntmps61
 go_wp2
 go_loopw [3,4] (λd i wr=>∃(j:Nat) (ms:List Df) (ra:Option Addr) (rc:Nat),j<=es.length/\i=.int .i64 j/\d=.slice ra ms.length rc/\ms.map Df.elem=(es.take j)/\Pg wr w.heap.size (.slice ra ms.length rc) ms/\Below w.heap.size w wr) (λ_ i _=>es.length - (intOf i).toNat)
 case atStart=>
  refine⟨0,[],some ⟨w.heap.size,0,none⟩,0,omz,rfl,rfl,rfl,⟨?_,(λm hm=>by cases hm),List.pairwise_singleton _ _⟩,blA⟩;have:=World.ownsRow_lit (base:=w.heap.size) (e:=49) (size:=2) w #[] 0 spz (by unfold maxLen;omega) rfl
  simpa[Gh] using this
 case round=>
  obtain⟨j,ms,ra,rc,hj,rfl,rfl,hmn,hmr,hb⟩:=hrel;have aH:=hid hmn;have aP:=hid hmr;clear hmn hmr;by_cases hlt:j<es.length
  ·have hml:ms.length=j:=by
    have h1:=congrArg List.length aH.out;simp only[A4o,List.length_take] at h1;omega
   obtain⟨b,o,rfl,hbl,hn⟩:=HA j hlt;obtain⟨x0,av,x1,hav⟩:=hn.below hb hbl;have hfx:=(HF _ (A4f hlt)).2.1;have aT:=hid (A4r hlt);obtain⟨x,hx⟩:∃x,x=es[j]:=⟨_,rfl⟩
   rw[<-hx] at x0 hav aT hfx;have jZ:=hav;obtain⟨p0,r0,rfl,bP⟩:=hav;clear bP;have dS:=hid (jZ.below (Aa wr (.cells #[] 86)).drew);have hb0:=A37 hbl hb.size;have HOW:Hid (((wr.alloc (.cells #[] 86)).drew).ownsRow wr.heap.size 86 3 (.slice (some ⟨wr.heap.size,0,none⟩) 0 0) 0 []):=by
    have:=World.ownsRow_lit (base:=wr.heap.size) (e:=86) (size:=3) wr #[] 0 (A4d _) (by unfold maxLen;omega) rfl
    have h2:(wr.alloc (.cells #[] 86)).ownsRow wr.heap.size 86 3 (.slice (some ⟨wr.heap.size,0,none⟩) 0 0) 0 []:=by simpa using this
    exact h2
   have dI:=hid (λW (hg:((wr.alloc (.cells #[] 86)).drew).grownBy W (some wr.heap.size))=>(Aa wr (.cells #[] 86)).drew.grown hg spz (λk hk=>by cases hk;exact A4d _));have jL:=hid (λk hk=>(aP.1.lt k hk).1);have HAP:Hid (∀u:Value,(∀q,u.ownBlock=some q->wr.heap.size<=q)->(Value.slice ra ms.length rc::(Ff ms++Ff [Df.mk x.op x.args u])).Pairwise Aside):=by
    intro u hu;have h2:=aP.2.2;rw[A4u] at h2 ⊢;have hnew:=λy hy=>Ef (n:=wr.heap.size) (λk hk=>(aP.lt y hy k hk).2) hu
    refine⟨λy hy=>?_,List.pairwise_append.2 ⟨h2.2,List.pairwise_singleton _ _,λy hy z hz=>?_⟩⟩
    ·rcases List.mem_append.1 hy with hy | hy
     ·exact h2.1 y hy
     ·rw[show y=u from by simpa[Ff] using hy];exact hnew _ spz
    ·rw[show z=u from by simpa[Ff] using hz];exact hnew y (A4c _ hy)
   have hl2:ms.length+[Df.mk x.op x.args (.slice none 0 0)].length<=1000000:=by simp only[A48];omega
   have hj1:(0:Int)<=(j:Int):=omz
   have hj2:(j:Int)<(es.length:Int):=omz
   clear hx hn jZ hml;go_upto_region 5 with fail
   go_region_held3 (λW'=>(W'.cell? ⟨b,o+j*2,none⟩=some (.int .i64 x.op)/\W'.cell? ⟨b,o+j*2+1,none⟩=some (.slice p0 x.args.length r0))) (first | with_reducible assumption | with_reducible exact⟨Fz.trans x0,Fz.trans x1⟩ | with_reducible exact⟨Fz.trans ((Ej hb0).trans x0),Fz.trans ((Ej hb0).trans x1)⟩ | with_reducible exact⟨(Ej qO).trans hS5.1,(Ej qO).trans hS5.2⟩ | skip) (first | (refine Pi rfl _ _ rfl wr.heap.size wr.heap.size x.args rfl HOW.out p0 r0 rfl dS.out hfx (by show wr.heap.size<=(wr.alloc _).heap.size;simp) ?_;intro u w5 g5 hg5;obtain⟨s0,t0,hu⟩:=Af g5;subst hu;have mQ:=hid (Joins.ownsRow_le g5 hb.size);have HLO5:=hid ((λq hq=>(g5.lt q hq).1));have vI:=dI.out w5 hg5;have hS5:(w5.cell? ⟨b,o+j*2,none⟩=some (.int .i64 x.op)/\w5.cell? ⟨b,o+j*2+1,none⟩=some (.slice p0 x.args.length r0)):=⟨(vI.cell (p:=⟨b,o+j*2,none⟩) hb0).trans x0,(vI.cell (p:=⟨b,o+j*2+1,none⟩) hb0).trans x1⟩;have qO:=A37 hb0 vI.size;clear g5) | (refine Vy rfl _ _ rfl w.heap.size w.heap.size ra rc ms [(Df.mk x.op x.args (.slice s0 x.args.length t0))] _ 1 rfl rfl ((aP.out.below vI).below (Aa _ _)) (λ_=>⟨_,rfl,by exact Awl (by simp)⟩) (λm hm=>by rw[List.mem_singleton.1 hm];exact(ownsRow_below mQ.out (Aa _ _))) (HAP.out _ HLO5.out) hl2 (by have:=vI.size;have:=hb.size;simp;omega) (by have:=vI.size;have:=hb.size;simp;omega) jL.out ?_;intro a6 c6 w6 aW hb6 hv6;have gJ:Hid (Pg w6 w.heap.size (.slice a6 (ms.length+1) c6) (ms++[(Df.mk x.op x.args (.slice s0 x.args.length t0))])):=aW;have HB6:=hid ((Bq (hb.trans (vI.mono hb.size)) _).trans hb6);have hS6:(w6.cell? ⟨b,o+j*2,none⟩=some (.int .i64 x.op)/\w6.cell? ⟨b,o+j*2+1,none⟩=some (.slice p0 x.args.length r0)):=⟨((hb6.cell (p:=⟨b,o+j*2,none⟩) hbl).trans (Ej qO)).trans hS5.1,((hb6.cell (p:=⟨b,o+j*2+1,none⟩) hbl).trans (Ej qO)).trans hS5.2⟩;clear aW hb6 hv6))
   all_goals
    go_wp2
    refine⟨⟨j+1,ms++[Df.mk x.op x.args (.slice s0 x.args.length t0)],a6,c6,omz,by go_num,spz,?_,by rw[A38];exact gJ.out,HB6.out⟩,by simp[intOf];omega⟩;rw[aT.out,A4m,aH.out,List.map_singleton];rfl
  ·exact zg0
theorem Aut {w:World}{base:Nat}{v:Value}{ms:List Ah}(h1:w.ownsRow base 52 4 v ms.length (Gm ms))(h2:∀m∈ms,MOk w base m):Sr base w v (ms.map Ah.net):=by
 have:=(MOk.from (Ah.mk 0 0 [] (.slice none 0 0) v ms) ((H5 _ _ _).2 ⟨World.ownsRow_nil _ _ _ _,h1,h2⟩)).2
 rwa [Ah.net_eq] at this
theorem Xd (n:Stil.Net)(av kv:Value)(w:World)(hav:Bi w av n.one.args)(hkv:Dx w kv n.kids)(hf:Dc n):
  Calls Tryz.prog 62 #[.agg #[.int .i64 n.kind, .int .i64 n.one.op,av,kv]] w λe w'=>e=.returned (.bool (Aq n))/\Below w.heap.size w w':=by
 obtain⟨_,he,hl,_⟩:=Dp hf;exact Zf n av kv w hav hkv (by have:=he.2.1;omega) omz
theorem A2h (k1 o1:Int)(d1:List Stil.Dev)(a1:Option Addr)(c1:Nat)(aO:Option Addr)(e1:Nat)(n1:List Ah)(k2 o2:Int)(d2:List Stil.Dev)(a2:Option Addr)(c2:Nat)(aI:Option Addr)(e2:Nat)(n2:List Ah)(base:Nat)(w:World)
  (h1:MOk w base (Ah.mk k1 o1 d1 (.slice a1 d1.length c1) (.slice aO n1.length e1) n1)) (h2:MOk w base (Ah.mk k2 o2 d2 (.slice a2 d2.length c2) (.slice aI n2.length e2) n2)) (hp:((Ah.mk k1 o1 d1 (.slice a1 d1.length c1) (.slice aO n1.length e1) n1).vals++(Ah.mk k2 o2 d2 (.slice a2 d2.length c2) (.slice aI n2.length e2) n2).vals).Pairwise Aside) (hbase:base<=w.heap.size) (hs:Stil.sizes [(Ah.mk k1 o1 d1 (.slice a1 d1.length c1) (.slice aO n1.length e1) n1).net,(Ah.mk k2 o2 d2 (.slice a2 d2.length c2) (.slice aI n2.length e2) n2).net]<=999999) (hg1:Ir (Ah.mk k1 o1 d1 (.slice a1 d1.length c1) (.slice aO n1.length e1) n1).net) (hg2:Ir (Ah.mk k2 o2 d2 (.slice a2 d2.length c2) (.slice aI n2.length e2) n2).net) (hf1:Dc (Ah.mk k1 o1 d1 (.slice a1 d1.length c1) (.slice aO n1.length e1) n1).net) (hf2:Dc (Ah.mk k2 o2 d2 (.slice a2 d2.length c2) (.slice aI n2.length e2) n2).net):
  Calls Tryz.prog 64 #[.agg #[.int .i64 k1, .int .i64 o1, .slice a1 d1.length c1, .slice aO n1.length e1], .agg #[.int .i64 k2, .int .i64 o2, .slice a2 d2.length c2, .slice aI n2.length e2]] w λe w'=>Ah8 w' base ((Ah.mk k1 o1 d1 (.slice a1 d1.length c1) (.slice aO n1.length e1) n1).vals++(Ah.mk k2 o2 d2 (.slice a2 d2.length c2) (.slice aI n2.length e2) n2).vals) w.heap.size (Jq (Ah.mk k1 o1 d1 (.slice a1 d1.length c1) (.slice aO n1.length e1) n1).net (Ah.mk k2 o2 d2 (.slice a2 d2.length c2) (.slice aI n2.length e2) n2).net) e/\Below w.heap.size w w':=by
 obtain⟨f1,f2⟩:=MOk.from _ h1;obtain⟨f3,f4⟩:=MOk.from _ h2;have gY:Hid (∀W,Below w.heap.size w W->Calls Tryz.prog 62 #[.agg #[.int .i64 k1, .int .i64 o1, .slice a1 d1.length c1, .slice aO n1.length e1]] W λe w'=>e=.returned (.bool (Aq (Ah.mk k1 o1 d1 (.slice a1 d1.length c1) (.slice aO n1.length e1) n1).net))/\Below W.heap.size W w'):=by
  intro W h;have:=Xd (Ah.mk k1 o1 d1 (.slice a1 d1.length c1) (.slice aO n1.length e1) n1).net _ _ W (f1.at.below h) (f2.at.below h) hf1
  have e:=Ah.net_eq (Ah.mk k1 o1 d1 (.slice a1 d1.length c1) (.slice aO n1.length e1) n1);have oI:(Ah.mk k1 o1 d1 (.slice a1 d1.length c1) (.slice aO n1.length e1) n1).net.kind=k1:=by rw[e]
  have oH:(Ah.mk k1 o1 d1 (.slice a1 d1.length c1) (.slice aO n1.length e1) n1).net.one.op=o1:=by rw[e]
  rw[oI,oH] at this;exact this
 have fF:Hid (∀W,Below w.heap.size w W->Calls Tryz.prog 62 #[.agg #[.int .i64 k2, .int .i64 o2, .slice a2 d2.length c2, .slice aI n2.length e2]] W λe w'=>e=.returned (.bool (Aq (Ah.mk k2 o2 d2 (.slice a2 d2.length c2) (.slice aI n2.length e2) n2).net))/\Below W.heap.size W w'):=by
  intro W h;have:=Xd (Ah.mk k2 o2 d2 (.slice a2 d2.length c2) (.slice aI n2.length e2) n2).net _ _ W (f3.at.below h) (f4.at.below h) hf2
  have e:=Ah.net_eq (Ah.mk k2 o2 d2 (.slice a2 d2.length c2) (.slice aI n2.length e2) n2);have oI:(Ah.mk k2 o2 d2 (.slice a2 d2.length c2) (.slice aI n2.length e2) n2).net.kind=k2:=by rw[e]
  have oH:(Ah.mk k2 o2 d2 (.slice a2 d2.length c2) (.slice aI n2.length e2) n2).net.one.op=o2:=by rw[e]
  rw[oI,oH] at this;exact this
 have hp1:=List.pairwise_append.1 hp;have vX:Hid (∀W,Below w.heap.size w W->Ik W base (Ah.mk k1 o1 d1 (.slice a1 d1.length c1) (.slice aO n1.length e1) n1)):=λW h=>⟨h1.below h,hp1.1⟩
 have rP:Hid (∀W,Below w.heap.size w W->Ik W base (Ah.mk k2 o2 d2 (.slice a2 d2.length c2) (.slice aI n2.length e2) n2)):=λW h=>⟨h2.below h,hp1.2.1⟩
 have jO:Hid (∀x∈(Ah.mk k1 o1 d1 (.slice a1 d1.length c1) (.slice aO n1.length e1) n1).vals++(Ah.mk k2 o2 d2 (.slice a2 d2.length c2) (.slice aI n2.length e2) n2).vals,∀q,x.ownBlock=some q->q<w.heap.size):=by
  intro x hx q hq;rcases List.mem_append.1 hx with hx | hx
  ·exact(h1.lt _ x hx q hq).2
  ·exact(h2.lt _ x hx q hq).2
 have lI:Hid (Aq (Ah.mk k1 o1 d1 (.slice a1 d1.length c1) (.slice aO n1.length e1) n1).net=false->Aq (Ah.mk k2 o2 d2 (.slice a2 d2.length c2) (.slice aI n2.length e2) n2).net=false->∀W,Below w.heap.size w W->Calls Tryz.prog 90 #[.int .i64 2, .slice (some ⟨W.heap.size,0,none⟩) 2 2] (W.alloc (.cells #[.int .i64 k1, .int .i64 o1, .slice a1 d1.length c1, .slice aO n1.length e1, .int .i64 k2, .int .i64 o2, .slice a2 d2.length c2, .slice aI n2.length e2] 52)) λe w'=>Nr w' (W.alloc (.cells #[.int .i64 k1, .int .i64 o1, .slice a1 d1.length c1, .slice aO n1.length e1, .int .i64 k2, .int .i64 o2, .slice a2 d2.length c2, .slice aI n2.length e2] 52)).heap.size (Fb 2 (Cf 2 [(Ah.mk k1 o1 d1 (.slice a1 d1.length c1) (.slice aO n1.length e1) n1).net,(Ah.mk k2 o2 d2 (.slice a2 d2.length c2) (.slice aI n2.length e2) n2).net])) e/\Below (W.alloc (.cells #[.int .i64 k1, .int .i64 o1, .slice a1 d1.length c1, .slice aO n1.length e1, .int .i64 k2, .int .i64 o2, .slice a2 d2.length c2, .slice aI n2.length e2] 52)).heap.size (W.alloc (.cells #[.int .i64 k1, .int .i64 o1, .slice a1 d1.length c1, .slice aO n1.length e1, .int .i64 k2, .int .i64 o2, .slice a2 d2.length c2, .slice aI n2.length e2] 52)) w'):=by
  intro t1 t2 W h;have hr:=J4.pair (h1.below h) (h2.below h) hp (A4k hbase h.size);have hx1:=hg1.resolve_left (by rw[t1];exact Bool.false_ne_true);have hx2:=hg2.resolve_left (by rw[t2];exact Bool.false_ne_true);have hm:[(Ah.mk k1 o1 d1 (.slice a1 d1.length c1) (.slice aO n1.length e1) n1).net,(Ah.mk k2 o2 d2 (.slice a2 d2.length c2) (.slice aI n2.length e2) n2).net].map A7=[(Ah.mk k1 o1 d1 (.slice a1 d1.length c1) (.slice aO n1.length e1) n1).net,(Ah.mk k2 o2 d2 (.slice a2 d2.length c2) (.slice aI n2.length e2) n2).net]:=by
   simp only[A4q,List.map_nil];rw[Zv hx1,Zv hx2]
  have hat:Dx (W.alloc (.cells #[.int .i64 k1, .int .i64 o1, .slice a1 d1.length c1, .slice aO n1.length e1, .int .i64 k2, .int .i64 o2, .slice a2 d2.length c2, .slice aI n2.length e2] 52)) (.slice (some ⟨W.heap.size,0,none⟩) 2 2) [(Ah.mk k1 o1 d1 (.slice a1 d1.length c1) (.slice aO n1.length e1) n1).net,(Ah.mk k2 o2 d2 (.slice a2 d2.length c2) (.slice aI n2.length e2) n2).net]:=(Aut hr.1 hr.2.1).at
  have:=Azr 2 [(Ah.mk k1 o1 d1 (.slice a1 d1.length c1) (.slice aO n1.length e1) n1).net,(Ah.mk k2 o2 d2 (.slice a2 d2.length c2) (.slice aI n2.length e2) n2).net] (λx hx av kv V ha hk=>by
   rcases List.mem_cons.1 hx with rfl | hx
   ·exact Alc _ hf1 hx1.2.2 (by simp[Stil.sizes] at hs;omega) av kv V ha hk
   ·rw[List.mem_singleton.1 hx] at ha hk ⊢
    exact Alc _ hf2 hx2.2.2 (by simp[Stil.sizes] at hs;omega) av kv V ha hk) _ _ hat spz (by rw[hm];omega)
  rw[hm] at this;exact this
 obtain⟨S,hS⟩:∃S,S=Jq (Ah.mk k1 o1 d1 (.slice a1 d1.length c1) (.slice aO n1.length e1) n1).net (Ah.mk k2 o2 d2 (.slice a2 d2.length c2) (.slice aI n2.length e2) n2).net:=⟨_,rfl⟩
 have HS:Hid (S=if Aq (Ah.mk k1 o1 d1 (.slice a1 d1.length c1) (.slice aO n1.length e1) n1).net then(Ah.mk k2 o2 d2 (.slice a2 d2.length c2) (.slice aI n2.length e2) n2).net else if Aq (Ah.mk k2 o2 d2 (.slice a2 d2.length c2) (.slice aI n2.length e2) n2).net then(Ah.mk k1 o1 d1 (.slice a1 d1.length c1) (.slice aO n1.length e1) n1).net else Fb 2 (Cf 2 [(Ah.mk k1 o1 d1 (.slice a1 d1.length c1) (.slice aO n1.length e1) n1).net,(Ah.mk k2 o2 d2 (.slice a2 d2.length c2) (.slice aI n2.length e2) n2).net])):=hS;rw[<-hS];obtain⟨t1,ht1⟩:∃t,t=Aq (Ah.mk k1 o1 d1 (.slice a1 d1.length c1) (.slice aO n1.length e1) n1).net:=⟨_,rfl⟩
 obtain⟨t2,ht2⟩:∃t,t=Aq (Ah.mk k2 o2 d2 (.slice a2 d2.length c2) (.slice aI n2.length e2) n2).net:=⟨_,rfl⟩
 rw[<-ht1] at gY HS lI;rw[<-ht2] at fF HS lI;obtain⟨VS,uU⟩:∃VS,VS=(Ah.mk k1 o1 d1 (.slice a1 d1.length c1) (.slice aO n1.length e1) n1).vals++(Ah.mk k2 o2 d2 (.slice a2 d2.length c2) (.slice aI n2.length e2) n2).vals:=⟨_,rfl⟩
 have eF:=hid uU;rw[<-uU] at jO ⊢;obtain⟨X1,hX1⟩:∃X,X=(Ah.mk k1 o1 d1 (.slice a1 d1.length c1) (.slice aO n1.length e1) n1).net:=⟨_,rfl⟩
 obtain⟨X2,hX2⟩:∃X,X=(Ah.mk k2 o2 d2 (.slice a2 d2.length c2) (.slice aI n2.length e2) n2).net:=⟨_,rfl⟩
 have HX1:=hid hX1;have HX2:=hid hX2;rw[<-hX1,<-hX2] at lI HS;clear hS ht1 ht2 uU hX1 hX2 f1 f2 f3 f4 h1 h2 hp hp1 hs hf1 hf2 hg1 hg2;cases t1
 ·cases t2
  ·have jJ:S=Fb 2 (Cf 2 [X1,X2]):=by rw[HS.out];rfl
   rw[<-jJ] at lI;clear HS jJ vX rP;go_enter Tryz.func64,Tryz.ntmps64;go_upto_region 3 with(go_at_call 62;refine(gY _ blA).mono ?_;rintro e w1 ⟨rfl,hb1⟩;obtain⟨hc,hf⟩:=Dq hb1;have hza:w.heap.size<w1.heap.size:=A37 (by simp;omega) hb1.size;have hzb:w.heap.size+1<w1.heap.size:=A37 spz hb1.size;have hzc:w.heap.size+1+1<w1.heap.size:=A37 spz hb1.size;have iI:Below w.heap.size w w1:=blA)
   go_upto_region 5 with(go_at_call 62;refine(fF _ blA).mono ?_;rintro e w2 ⟨rfl,hb2⟩;obtain⟨hc2,hf2⟩:=Dq hb2;have hzd:=A37 hza hb2.size;have hze:=A37 hzb hb2.size;have dU:=A37 hzc hb2.size;have hbB:Below w.heap.size w w2:=(by exact iI.trans (hb2.mono iI.size)))
   go_wp2_with (go_at_call 90;refine(lI (by trivial) (by trivial) w2 hbB).mono ?_;rintro e w3 ⟨⟨mk,aG,aF,s0,t0,s1,t1,aC,rfl,hmo,hmn⟩,hb3⟩;obtain⟨hc3,hf3⟩:=Dq hb3;have hzg:=A37 (A37 dU spz) hb3.size;have aJ:=hid (hmo.le (A4k hbase (A4k hbB.size spz)));have aH:=hid hmn;have HW:Hid (∀x∈(Ah.mk mk aG aF (.slice s0 aF.length t0) (.slice s1 aC.length t1) aC).vals,x∈VS\/∀q,x.ownBlock=some q->w2.heap.size<=q):=(λx hx=>.inr (λq hq=>A4k spz (hmo.1.lt _ x hx q hq).1));clear hmo hmn)
   have b0:w3.cell? ⟨w.heap.size+1+1,0,none⟩=some (.int .i64 0):=by rw[hc3 _ _ (A37 dU spz),Ej dU,hc2 _ _ hzc,hc _ _ spz];simp[go_sem]
   have b1:w3.cell? ⟨w.heap.size+1+1,1,none⟩=some (.int .i64 0):=by rw[hc3 _ _ (A37 dU spz),Ej dU,hc2 _ _ hzc,hc _ _ spz];simp[go_sem]
   have b2:w3.cell? ⟨w.heap.size+1+1,2,none⟩=some (.slice none 0 0):=by rw[hc3 _ _ (A37 dU spz),Ej dU,hc2 _ _ hzc,hc _ _ spz];simp[go_sem]
   have b3:w3.cell? ⟨w.heap.size+1+1,3,none⟩=some (.slice none 0 0):=by rw[hc3 _ _ (A37 dU spz),Ej dU,hc2 _ _ hzc,hc _ _ spz];simp[go_sem]
   refine bodyPost_ret (v:=.agg #[.int .i64 mk, .int .i64 aG, .slice s0 aF.length t0, .slice s1 aC.length t1]) (by simp[results,Tryz.results64,go_sem,b0,b1,b2,b3]) rfl ⟨⟨mk,aG,aF,s0,t0,s1,t1,aC,rfl,?_,aH.out,λx hx=>(HW x hx).imp id (λh q hq=>by have:=h q hq;omega)⟩,?_⟩
   ·exact zA0
   ·exact zB0
  ·have jJ:S=X1:=by rw[HS.out];rfl
   have aH:Hid ((Ah.mk k1 o1 d1 (.slice a1 d1.length c1) (.slice aO n1.length e1) n1).net=S):=by show _=_;rw[jJ,HX1.out]
   have eG:Hid (∀x∈(Ah.mk k1 o1 d1 (.slice a1 d1.length c1) (.slice aO n1.length e1) n1).vals,x∈VS):=λx hx=>by rw[eF.out];exact A4j _ hx
   clear HS jJ lI rP;go_enter Tryz.func64,Tryz.ntmps64;go_upto_region 3 with(go_at_call 62;refine(gY _ blA).mono ?_;rintro e w1 ⟨rfl,hb1⟩;obtain⟨hc,hf⟩:=Dq hb1;have hza:w.heap.size<w1.heap.size:=A37 (by simp;omega) hb1.size;have hzb:w.heap.size+1<w1.heap.size:=A37 spz hb1.size;have hzc:w.heap.size+1+1<w1.heap.size:=A37 spz hb1.size;have iI:Below w.heap.size w w1:=blA)
   go_wp2_with (go_at_call 62;refine(fF _ blA).mono ?_;rintro e w2 ⟨rfl,hb2⟩;obtain⟨hc2,hf2⟩:=Dq hb2;have hzd:=A37 hza hb2.size;have hze:=A37 hzb hb2.size;have dU:=A37 hzc hb2.size;have hbB:Below w.heap.size w w2:=(by exact iI.trans (hb2.mono iI.size)))
   have b0:w2.cell? ⟨w.heap.size+1+1,0,none⟩=some (.int .i64 0):=by rw[hc2 _ _ hzc,hc _ _ spz];simp[go_sem]
   have b1:w2.cell? ⟨w.heap.size+1+1,1,none⟩=some (.int .i64 0):=by rw[hc2 _ _ hzc,hc _ _ spz];simp[go_sem]
   have b2:w2.cell? ⟨w.heap.size+1+1,2,none⟩=some (.slice none 0 0):=by rw[hc2 _ _ hzc,hc _ _ spz];simp[go_sem]
   have b3:w2.cell? ⟨w.heap.size+1+1,3,none⟩=some (.slice none 0 0):=by rw[hc2 _ _ hzc,hc _ _ spz];simp[go_sem]
   refine bodyPost_ret (v:=.agg #[.int .i64 k1, .int .i64 o1, .slice a1 d1.length c1, .slice aO n1.length e1]) (by simp[results,Tryz.results64,go_sem,b0,b1,b2,b3]) rfl ⟨⟨k1,o1,d1,a1,c1,aO,e1,n1,rfl,?_,aH.out,λx hx=>.inl (eG x hx)⟩,?_⟩
   ·exact Ik.setO4 (vX w2 hbB) (λx hx e=>by have:=jO x (eG x hx) _ e;omega)
   ·clear iI hb1 hb2
    exact blA
 ·have jJ:S=X2:=by rw[HS.out];rfl
  have aH:Hid ((Ah.mk k2 o2 d2 (.slice a2 d2.length c2) (.slice aI n2.length e2) n2).net=S):=by show _=_;rw[jJ,HX2.out]
  have eG:Hid (∀x∈(Ah.mk k2 o2 d2 (.slice a2 d2.length c2) (.slice aI n2.length e2) n2).vals,x∈VS):=λx hx=>by rw[eF.out];exact A4g _ hx
  clear HS jJ lI vX fF;go_enter Tryz.func64,Tryz.ntmps64
  go_wp2_with (go_at_call 62;refine(gY _ blA).mono ?_;rintro e w1 ⟨rfl,hb1⟩;obtain⟨hc,hf⟩:=Dq hb1;have hza:w.heap.size<w1.heap.size:=A37 (by simp;omega) hb1.size;have hzb:w.heap.size+1<w1.heap.size:=A37 spz hb1.size;have hzc:w.heap.size+1+1<w1.heap.size:=A37 spz hb1.size;have iI:Below w.heap.size w w1:=blA)
  have b0:w1.cell? ⟨w.heap.size+1+1,0,none⟩=some (.int .i64 0):=by rw[hc _ _ spz];simp[go_sem]
  have b1:w1.cell? ⟨w.heap.size+1+1,1,none⟩=some (.int .i64 0):=by rw[hc _ _ spz];simp[go_sem]
  have b2:w1.cell? ⟨w.heap.size+1+1,2,none⟩=some (.slice none 0 0):=by rw[hc _ _ spz];simp[go_sem]
  have b3:w1.cell? ⟨w.heap.size+1+1,3,none⟩=some (.slice none 0 0):=by rw[hc _ _ spz];simp[go_sem]
  refine bodyPost_ret (v:=.agg #[.int .i64 k2, .int .i64 o2, .slice a2 d2.length c2, .slice aI n2.length e2]) (by simp[results,Tryz.results64,go_sem,b0,b1,b2,b3]) rfl ⟨⟨k2,o2,d2,a2,c2,aI,e2,n2,rfl,?_,aH.out,λx hx=>.inl (eG x hx)⟩,?_⟩
  ·exact Ik.setO4 (rP w1 iI) (λx hx e=>by have:=jO x (eG x hx) _ e;omega)
  ·clear hb1
   exact blA
end Go.Proofs.YtbfljjcnbbmoaaaGreatDoor
