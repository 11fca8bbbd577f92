import Derived.Test.YtbfljjcnbbmoaaaGreatDoorCG7
import Derived.Test.YtbfljjcnbbmoaaaGreatDoorCI1
import Derived.Test.YtbfljjcnbbmoaaaGreatDoorGb
import Derived.Conc.SmallLaws
namespace Go.Co
open Stil
open Go.Conc
section
variable {τ : Type} {P : Program} {main : Bool} {Low : Nat} {pre : τ -> World -> Prop} {ok : τ -> (Nat -> Prop) -> World -> Goroutine -> Prop} {fn : FuncId} {a : Act} {x : τ} {O : Nat -> Prop} {w : World}
theorem Acf (T:OkL P main Low pre ok) {b:Frame} {k:List Item} {cs:List Frame} {c d:Code} (hb:b.fn=fn) (hk:b.kind≠.early)
  (h:WpK ok fn c (Tm (λa' x' O' w'=>ok x' O' w' (G (b.at a' (.code d::k)) cs)) (λ_ _ _ _ _=>False)) a x O w):ok x O w (G (b.at a (.code (.seq c d)::k)) cs):=by
 refine T.ctl rfl rfl (λ_=>stepG_seq) (h b (.code d::k) cs hb hk λe a' x' O' w' q=>?_);cases e with
 | normal=>exact q
 | _=>exact q.elim
theorem Ao9 (T:OkL P main Low pre ok) {b:Frame} {k:List Item} {cs:List Frame} {id:Nat} {ops:Array Oper} (h:ok x O w (G (b.at a (.inRegion ops (List.range ops.size)::k)) cs)):ok x O w (G (b.at a (.code (.region id ops false)::k)) cs):=
 T.ctl rfl rfl (λ_=>stepG_region) h
theorem Axm (T:OkL P main Low pre ok) {b:Frame} {k:List Item} {cs:List Frame} {ops:Array Oper} {i:Nat} {rest:List Nat} {o:Oper} {v:Value} (ho:ops[i]?=some o) (hw:Region.wanted o (yielded ops a.tmps)=true) (hk:b.kind≠.early)
  (hr:∀w₁:World,(execOp a.eval o).run P w₁=.ok (.value v) w₁) (he:∀w₁:World,(execOp a.eval o).events P w₁ #[]=#[]) (h:ok x O w (G (b.at (a.put o.dst v) (.inRegion ops rest::k)) cs)):ok x O w (G (b.at a (.inRegion ops (i::rest)::k)) cs):=by
 refine T.ctl rfl rfl (λw₁=>?_) h;rw[stepG_value ho hw hk (hr w₁)];unfold listed;rw[he,seen_none]
end
end Go.Co
namespace Go.Proofs.YtbfljjcnbbmoaaaGreatDoor
open Stil
open Go.RowKit Go.Sort Go.BigFrame Go.Conc Go.Co
variable {Low c : Nat}
set_option maxRecDepth 100000 in
set_option maxHeartbeats 4000000 in
theorem A24 (w₀:World) (m:Au) (hg:Aed m.arm) (hn:Ac2 m.net.net) (hs:Aj m.net.net<=1000000) (hok:VOk Low w₀ m):∃vs,MIs w₀ m.vals vs (Fb m.arm)/\∀w O,Held Low w₀ O w->
  okS Tryz.prog Low c (vs.map MI.val) O w (born Tryz.prog (dcall 43 #[.chan (some c), .agg #[.int .i64 m.net.kind, .int .i64 m.net.op,m.net.av,m.net.kv,m.cv,m.kv]])):=by
 obtain⟨v1,h1,hB⟩:=Av7 (c:=c) w₀ m.net hn hs hok.net;obtain⟨v2,h2,hT⟩:=A23 (c:=c) w₀ m hg hok;refine⟨v1++(v2++[mi0 11]),?_,λw O hF=>?_⟩
 ·unfold Fb
  rw[Ph,show m.arm.net=m.net.net by rw[Au.arm_eq]];exact h1.append (h2.snoc 11)
 obtain⟨pa,ra,hva⟩:=hok.net.devs;obtain⟨pk,r1,hvk,_⟩:=hok.net.kids;obtain⟨pc,rc,hvc,_⟩:=hok.coils;obtain⟨pd,rd,hvd,_⟩:=hok.kids;clear h1 h2 hok hg hn hs;obtain⟨⟨nk,no,nd,na,nv,nks⟩,cv,cs,kv,ks⟩:=m;dsimp only at hva hvk hvc hvd hB hT ⊢;subst hva hvk hvc hvd;rw[A4r,A4r,A4v,List.map_nil,MI.val,mi0];refine Axk Tryz.func43 (by rfl) rfl ?_;have HB:Hid (∀rest O w,Held Low w₀ O w->Jv Tryz.prog (okS Tryz.prog Low c) 67 #[.chan (some c), .agg #[.int .i64 nk, .int .i64 no, .slice pa nd.length ra, .slice pk nks.length r1]] (v1.map MI.val++rest) O w λ_ x' O' w'=>x'=rest/\Ext Low O O' w w'/\Held Low w₀ O' w'):=hB;have HT:Hid (∀rest O w,Held Low w₀ O w->Jv Tryz.prog (okS Tryz.prog Low c) 68 #[.chan (some c), .agg #[.int .i64 nk, .int .i64 no, .slice pa nd.length ra, .slice pk nks.length r1, .slice pc cs.length rc, .slice pd ks.length rd]] (v2.map MI.val++rest) O w λ_ x' O' w'=>x'=rest/\Ext Low O O' w w'/\Held Low w₀ O' w'):=hT;clear hB hT;simp only[Tryz.ntmps43,A4g,A4e,A4f,Nat.reduceAdd,Nat.reduceSub,A46,A47,A5c,A49,A44,A43];refine Acf (Be _ _ _) (fn:=43) rfl (by simp[baseD]) ?_
 (refine Es (Be _ _ _) ?_;simp only[A4g,A4e,A4f,A4m,List.range,List.range.loop])
 refine kB hF #[.int .i64 nk, .int .i64 no, .slice pa nd.length ra, .slice pk nks.length r1, .slice pc cs.length rc, .slice pd ks.length rd] 55 λO1 W1 b1 hE1 hF1 hO1 hL1 HC1=>?_
 try walk_nrm
 refine Nz (Be _ _ _) ?_;simp only[Tm];refine Acf (Be _ _ _) (fn:=43) rfl (by simp[baseD]) ?_;have _Y:=cs6 HC1;refine kW ?_;clear _Y
 (refine F8 (Be _ _ _) rfl (by rfl) rfl (HB.out _ _ _ hF1) (by simp[Act.eval]) ?_;rintro _ _ O2 W2 ⟨rfl,hE2,hF2⟩;try walk_nrm)
 replace HC1:=Af9 HC1 hE2 hO1;replace hO1:=hE2.own _ hO1;refine Nz (Be _ _ _) ?_;simp only[Tm];refine Acf (Be _ _ _) (fn:=43) rfl (by simp[baseD]) ?_;have _Y:=cs6 HC1;refine kW ?_;clear _Y
 (refine F8 (Be _ _ _) rfl (by rfl) rfl (HT.out _ _ _ hF2) (by simp[Act.eval]) ?_;rintro _ _ O3 W3 ⟨rfl,hE3,hF3⟩;try walk_nrm)
 refine Nz (Be _ _ _) ?_;simp only[Tm];refine Acf (Be _ _ _) (fn:=43) rfl (by simp[baseD]) ?_;refine kW ?_;refine Ao9 (Be _ _ _) ?_;simp only[A4g,A4e,A4f,Nat.reduceAdd,A4m,List.range,List.range.loop];refine Axm (Be _ _ _) rfl (by rfl) (by simp[baseD]) (v:=.chan (some c)) (λ_=>by go_simp) (λ_=>by simp[go_sem]) ?_;refine At7 rfl (by rfl) (by simp[baseD]) rfl (by simp[Act.eval,Act.put]) (by kernel_rfl) ?_ (Atp Tryz.func43 rfl rfl)
 ·rfl
end Go.Proofs.YtbfljjcnbbmoaaaGreatDoor
namespace Go.Proofs.YtbfljjcnbbmoaaaGreatDoor
open Go.RowKit Go.Sort Go.BigFrame Go.Conc Go.Co
variable {Low : Nat} {Stop : Goroutine -> World -> Prop}
def A3b (Low:Nat) (w₀:World) (m:Au) (f:Nat->List MI):Prop:=∀c w O,Held Low w₀ O w->
 okS Tryz.prog Low c ((f c).map MI.val) O w (born Tryz.prog (dcall 43 #[.chan (some c), .agg #[.int .i64 m.net.kind, .int .i64 m.net.op,m.net.av,m.net.kv,m.cv,m.kv]]))
theorem take_snoc {α:Type} (l:List α) (j:Nat) (h:j<l.length):l.take (j+1)=l.take j++[l[j]]:=by rw[List.take_add_one,A4u h];rfl
theorem Aux:(Tryz.prog.info? 62).map (λi=>(i.zero,i.size,i.bytes))=some (some (.chan none),1,8):=by kernel_rfl
theorem A2f (w:World):Sem.run Tryz.prog (Instr.makeChan 62 (.int .i64 0)) w=.ok (.chan (some w.heap.size)) (w.alloc (.chan 0 #[] false 0 0 false)):=by
 obtain⟨i0,hi,hy0,hy1,hy2⟩:=info_parts Y7;exact run_makeChan Tryz.underlying62 hi .i64 0 (by omega) (by omega)
theorem Avi (w:World):Sem.events Tryz.prog (Instr.makeChan 62 (.int .i64 0)) w #[]=#[]:=by
 obtain⟨i0,hi,hy0,hy1,hy2⟩:=info_parts Y7;exact events_makeChan Tryz.underlying62 hi .i64 0 (by omega) (by omega) _
set_option maxRecDepth 100000 in
set_option maxHeartbeats 4000000 in
theorem A1s (w₀:World) (ms:List Au) (f:Au->Nat->List MI) (a:Option Addr) (cap:Nat) (hkc:∀i (h:i<ms.length),∃b o,a=some ⟨b,o,none⟩/\b<Low/\Aah w₀ b (o+i*6) ms[i]) (hok:∀m∈ms,VOk Low w₀ m) (hgo:∀m∈ms,A3b Low w₀ m (f m)) (hl:ms.length<=1000) (Oo:Nat->Prop) (wo:World) (hFo:Held Low w₀ Oo wo):
  Jv Tryz.prog (okR Tryz.prog Low Stop) 21 #[.slice a ms.length cap] [] Oo wo λv x' O' w'=>∃cs:List Nat,cs.length=ms.length/\x'=List.zipWith (λc m=>(c,(f m c).map MI.val,false)) cs ms/\
   w'.ownsRow Low 62 1 v ms.length (cs.map λc=>.chan (some c))/\(∀k,v.ownBlock=some k->O' k)/\Held Low w₀ O' w':=by
 have hres:=resultsC_tmp (P:=Tryz.prog) (fn:=Tryz.f21) rfl;have HOK:=hid hok;have HGO:=hid hgo;have HKC:=hid hkc;clear hok hgo hkc;refine G6 Tryz.func21 (by rfl) rfl ?_;simp only[Tryz.ntmps21,A4g,A4e,A4f,Nat.reduceAdd,Nat.reduceSub,A46,A47,A5c,A49,A44,A43];refine kV ?_
 refine V4 (Bj _ _ _) (λn a' x' O' w'=>∃(j:Nat) (cs:List Nat) (sv u5 u6 u10 u11 u12 u13 u14 u15 u16 u17 u18 u19 u20:Value),j<=ms.length/\n=ms.length - j/\a'=⟨#[.slice a ms.length cap,undef, .slice none 0 0,sv,undef,u5,u6, .slice a ms.length cap, .int .i64 ms.length, .int .i64 j,u10,u11,u12,u13,u14,u15,u16,u17,u18,u19,u20,undef],[]⟩/\
  cs.length=j/\x'=List.zipWith (λc m=>(c,(f m c).map MI.val,false)) cs (ms.take j)/\w'.ownsRow Low 62 1 sv j (cs.map λc=>.chan (some c))/\(∀k,sv.ownBlock=some k->O' k)/\Held Low w₀ O' w') ms.length
  ⟨0,[], .slice none 0 0,undef,undef,undef,undef,undef,undef,undef,undef,undef,undef,undef,undef,undef,Nat.zero_le _,rfl,rfl,rfl,rfl,World.ownsRow_nil _ _ _ _,(λk hk=>by cases hk),hFo⟩ ?_
 rintro n _ _ O w ⟨j,cs,sv,u5,u6,u10,u11,u12,u13,u14,u15,u16,u17,u18,u19,u20,hj,rfl,rfl,hcl,rfl,hS,hSO,hF1⟩;try dsimp only
 by_cases hlt:j<ms.length
 ·have hlt':(j:Int)<(ms.length:Int):=by omega
  obtain⟨b,o,rfl,hb,hc⟩:=HKC.out j hlt;have hm:=A4k hlt;have hkj:=HOK.out _ hm;have hgj:=HGO.out _ hm;have HTK:=hid (take_snoc ms j hlt);have HTL:Hid ((ms.take j).length=j):=by show _=_;rw[List.length_take];omega
  revert hc hkj hgj HTK
  generalize ms[j]=x;intro hc hkj hgj HTK;obtain⟨fx,hfx⟩:∃fx,fx=f x:=⟨_,rfl⟩
  have HFX:=hid hfx;rw[<-hfx] at hgj;clear hfx;obtain⟨qa,sa,hva⟩:=hkj.net.devs;obtain⟨qk,sk,hvk,_⟩:=hkj.net.kids;obtain⟨qc,sc,hvc,_⟩:=hkj.coils;obtain⟨qd,sd,hvd,_⟩:=hkj.kids;clear hkj;obtain⟨⟨xk,xo,xd,xa,xkv,xs⟩,ecv,ecs,ekv,eks⟩:=x;dsimp only at hva hvk hvc hvd;subst hva hvk hvc hvd;have HCN:=hid (λW (hW:Keep Low O w W)=>hc.held (hF1.rely hW) hb);have HGJ:Hid (∀c w O,Held Low w₀ O w->okS Tryz.prog Low c ((fx c).map MI.val) O w (born Tryz.prog (dcall 43 #[.chan (some c), .agg #[.int .i64 xk, .int .i64 xo, .slice qa xd.length sa, .slice qk xs.length sk, .slice qc ecs.length sc, .slice qd eks.length sd]]))):=hgj;clear hc hm hgj;have hE1:=Ext.refl Low O w;have _Y:=HCN.out;simp only[Aah,U9] at _Y;refine kV ?_;clear _Y;refine J7 (Bj _ _ _) rfl (by rfl) ?_ ?_
  ·intro _;simp[go_sem];done
  intro w₁ hR K hK;go_simp;refine hK _ _ ?_;clear hK K;obtain⟨O2,eO,hE2,hF2,hO2,hL2,hN2,hH2⟩:=Ajw hF1 hR #[.int .i64 0, .int .i64 0, .slice none 0 0, .slice none 0 0, .slice none 0 0, .slice none 0 0] 55;rw[<-eO];clear eO
  revert hE2 hF2 hO2 hL2 hN2 hH2
  generalize w₁.alloc (.cells #[.int .i64 0, .int .i64 0, .slice none 0 0, .slice none 0 0, .slice none 0 0, .slice none 0 0] 55)=W2;generalize w₁.heap.size=b2;intro hE2 hF2 hO2 hL2 hN2 hH2;replace hE2:=hE1.trans hE2;replace hN2 :=λx hx=>hN2 x (hE1.own x hx)
  clear hR w₁;try walk_nrm
  refine Vh (Bj _ _ _) b2 hO2 rfl (by rfl) ?_ ?_
  ·intro w₁ hR e he
   have hh:=(hR.mine _ hO2).trans hH2;have y0:w₁.cell? ⟨b2,0,none⟩=some (.int .i64 0):=cell_of_heap hh 0;have z0:=frozen_of_heap hh 0;have y1:w₁.cell? ⟨b2,1,none⟩=some (.int .i64 0):=cell_of_heap hh 1;have z1:=frozen_of_heap hh 1;have y2:w₁.cell? ⟨b2,2,none⟩=some (.slice none 0 0):=cell_of_heap hh 2;have z2:=frozen_of_heap hh 2;have y3:w₁.cell? ⟨b2,3,none⟩=some (.slice none 0 0):=cell_of_heap hh 3;have z3:=frozen_of_heap hh 3;have y4:w₁.cell? ⟨b2,4,none⟩=some (.slice none 0 0):=cell_of_heap hh 4;have z4:=frozen_of_heap hh 4;have y5:w₁.cell? ⟨b2,5,none⟩=some (.slice none 0 0):=cell_of_heap hh 5;have z5:=frozen_of_heap hh 5;clear hh;simp[go_sem,events_store_slice,storedEv, *] at he
   (first | (subst he;exact⟨_,_,rfl, .inl hO2⟩) | (rcases he with rfl | rfl<;>exact⟨_,_,rfl, .inl hO2⟩) | (rcases he with rfl | rfl | rfl | rfl<;>exact⟨_,_,rfl, .inl hO2⟩) | (rcases he with rfl | rfl | rfl | rfl | rfl | rfl<;>exact⟨_,_,rfl, .inl hO2⟩))
  intro w₁ hR K hK;have hh:=(hR.mine _ hO2).trans hH2;have y0:w₁.cell? ⟨b2,0,none⟩=some (.int .i64 0):=cell_of_heap hh 0;have z0:=frozen_of_heap hh 0;have y1:w₁.cell? ⟨b2,1,none⟩=some (.int .i64 0):=cell_of_heap hh 1;have z1:=frozen_of_heap hh 1;have y2:w₁.cell? ⟨b2,2,none⟩=some (.slice none 0 0):=cell_of_heap hh 2;have z2:=frozen_of_heap hh 2;have y3:w₁.cell? ⟨b2,3,none⟩=some (.slice none 0 0):=cell_of_heap hh 3;have z3:=frozen_of_heap hh 3;have y4:w₁.cell? ⟨b2,4,none⟩=some (.slice none 0 0):=cell_of_heap hh 4;have z4:=frozen_of_heap hh 4;have y5:w₁.cell? ⟨b2,5,none⟩=some (.slice none 0 0):=cell_of_heap hh 5;have z5:=frozen_of_heap hh 5;clear hh;go_simp;try (unfold stored;go_simp)
  have hh:=(hR.mine _ hO2).trans hH2;have hp:Put b2 w₁ ((((((w₁.setCell ⟨b2,0,none⟩ (.int .i64 xk)).setCell ⟨b2,1,none⟩ (.int .i64 xo)).setCell ⟨b2,2,none⟩ (.slice qa xd.length sa)).setCell ⟨b2,3,none⟩ (.slice qk xs.length sk)).setCell ⟨b2,4,none⟩ (.slice qc ecs.length sc)).setCell ⟨b2,5,none⟩ (.slice qd eks.length sd)):=(((((((Put.refl _ _).set 0 (.int .i64 xk)).set 1 (.int .i64 xo)).set 2 (.slice qa xd.length sa)).set 3 (.slice qk xs.length sk)).set 4 (.slice qc ecs.length sc)).set 5 (.slice qd eks.length sd))
  have hh2:((((((w₁.setCell ⟨b2,0,none⟩ (.int .i64 xk)).setCell ⟨b2,1,none⟩ (.int .i64 xo)).setCell ⟨b2,2,none⟩ (.slice qa xd.length sa)).setCell ⟨b2,3,none⟩ (.slice qk xs.length sk)).setCell ⟨b2,4,none⟩ (.slice qc ecs.length sc)).setCell ⟨b2,5,none⟩ (.slice qd eks.length sd)).heap[b2]?=some (.cells #[.int .i64 xk, .int .i64 xo, .slice qa xd.length sa, .slice qk xs.length sk, .slice qc ecs.length sc, .slice qd eks.length sd] 55):=(heap_setCell (heap_setCell (heap_setCell (heap_setCell (heap_setCell (heap_setCell hh 0 (.int .i64 xk)) 1 (.int .i64 xo)) 2 (.slice qa xd.length sa)) 3 (.slice qk xs.length sk)) 4 (.slice qc ecs.length sc)) 5 (.slice qd eks.length sd))
  refine hK _ _ hp ?_;clear hK K hh y0 z0 y1 z1 y2 z2 y3 z3 y4 z4 y5 z5 hH2;replace hE2:=(hE2.rely hR).put hp hL2 hN2;replace hF2:=(hF2.rely hR).put hp hL2
  revert hE2 hF2 hh2
  clear hp hR;generalize ((((((w₁.setCell ⟨b2,0,none⟩ (.int .i64 xk)).setCell ⟨b2,1,none⟩ (.int .i64 xo)).setCell ⟨b2,2,none⟩ (.slice qa xd.length sa)).setCell ⟨b2,3,none⟩ (.slice qk xs.length sk)).setCell ⟨b2,4,none⟩ (.slice qc ecs.length sc)).setCell ⟨b2,5,none⟩ (.slice qd eks.length sd))=W2;intro hh2 hE2 hF2;have HC2:Hid (∀W,Keep Low O2 W2 W->∀ii,W.cell? ⟨b2,ii,none⟩=(#[.int .i64 xk, .int .i64 xo, .slice qa xd.length sa, .slice qk xs.length sk, .slice qc ecs.length sc, .slice qd eks.length sd]:Array Value)[ii]?):=λW hW ii=>(hW.ext.cell (.inl hO2) ii).trans (cell_of_heap hh2 ii)
  clear hh2;try walk_nrm
  have hwj:IntKind.i64.wrap ((j:Int)+1)=((j+1:Nat):Int):=by rw[IntKind.wrap_i64];omega
  replace hS:=hE2.row hS (λk hk=>.inl (hSO k hk));have HNS:Hid (some b2≠sv.ownBlock):=λe=>hN2 b2 (hSO b2 e.symm) rfl
  have hSO2:=λk hk=>hE2.own _ (hSO k hk)
  clear hE1 hF1 hb HCN hSO hE2 hN2;repeat (first | (first | refine Jb (Bj _ _ _) ?_ | refine Py (Bj _ _ _) ?_ | refine Ti (Bj _ _ _) ?_ | refine wpK_label (Bj _ _ _) ?_ | refine Xx (Bj _ _ _) ?_ | refine Tj (Bj _ _ _) ?_ | refine Nz (Bj _ _ _) ?_) | (simp only[Tm,J3,if_true,if_false,reduceIte,Nat.reduceEqDiff]))
  (refine Es (Bj _ _ _) ?_;simp only[A4g,A4e,A4f,Nat.reduceAdd,A4m,List.range,List.range.loop])
  refine J7 (Bj _ _ _) rfl (by rfl) ?_ ?_
  ·intro W1;simp[go_sem,Avi];done
  intro w₁ hR K hK;have hmr:=A2f w₁;go_simp;refine hK _ _ ?_;clear hK K hmr;obtain⟨O3,eO,hE3,hF3,hO3,hL3,hN3,hH3⟩:=Av8 hF2 hR (.chan 0 #[] false 0 0 false);rw[<-eO];clear eO
  revert hE3 hF3 hO3 hL3 hN3 hH3
  generalize w₁.alloc (.chan 0 #[] false 0 0 false)=W3;generalize w₁.heap.size=b3;intro hE3 hF3 hO3 hL3 hN3 hH3;clear hR w₁;try walk_nrm
  replace HC2:=Af9 HC2 hE3 hO2;replace hO2:=hE3.own _ hO2;replace hS:=hE3.row hS (λk hk=>.inl (hSO2 k hk));have HNC:Hid (some b3≠sv.ownBlock):=λe=>hN3 b3 (hSO2 b3 e.symm) rfl
  have hSO3:=λk hk=>hE3.own _ (hSO2 k hk)
  clear hSO2 hE3 hN3 hF2
  (refine Nc (Bj _ _ _) rfl (by rfl) ?_ ?_;(focus (intro _;first | (simp[go_sem];done) | (simp[go_sem, *];done)));intro _ K hK;go_simp;refine hK _ ?_;clear hK K;try walk_nrm)
  repeat (first | (first | refine Jb (Bj _ _ _) ?_ | refine Py (Bj _ _ _) ?_ | refine Ti (Bj _ _ _) ?_ | refine wpK_label (Bj _ _ _) ?_ | refine Xx (Bj _ _ _) ?_ | refine Tj (Bj _ _ _) ?_ | refine Nz (Bj _ _ _) ?_) | (simp only[Tm,J3,if_true,if_false,reduceIte,Nat.reduceEqDiff]))
  (refine Es (Bj _ _ _) ?_;simp only[A4g,A4e,A4f,Nat.reduceAdd,A4m,List.range,List.range.loop])
  (refine Nc (Bj _ _ _) rfl (by rfl) ?_ ?_;(focus (intro _;first | (simp[go_sem];done) | (simp[go_sem, *];done)));intro _ K hK;go_simp;refine hK _ ?_;clear hK K;try walk_nrm)
  (refine Nc (Bj _ _ _) rfl (by rfl) ?_ ?_;(focus (intro _;first | (simp[go_sem];done) | (simp[go_sem, *];done)));intro _ K hK;go_simp;refine hK _ ?_;clear hK K;try walk_nrm)
  refine J7 (Bj _ _ _) rfl (by rfl) ?_ ?_
  ·intro W1;simp[go_sem];done
  intro w₁ hR K hK;go_simp;refine hK _ _ ?_;clear hK K;obtain⟨O4,eO,hE4,hF4,hO4,hL4,hN4,hH4⟩:=Av8 hF3 hR (.cells #[.chan (some b3)] 62);rw[<-eO];clear eO
  revert hE4 hF4 hO4 hL4 hN4 hH4
  generalize w₁.alloc (.cells #[.chan (some b3)] 62)=W4;generalize w₁.heap.size=b4;intro hE4 hF4 hO4 hL4 hN4 hH4;clear hR w₁;try walk_nrm
  replace HC2:=Af9 HC2 hE4 hO2;replace hO2:=hE4.own _ hO2;replace hS:=hE4.row hS (λk hk=>.inl (hSO3 k hk));have hSO4:=λk hk=>hE4.own _ (hSO3 k hk)
  replace hH3:=(hE4.mine _ hO3).trans hH3;replace hO3:=hE4.own _ hO3;clear hSO3 hE4 hN4 hF3;obtain⟨i0,hi,hy0,hy1,hy2⟩:=info_parts Aux;refine Ace (Bj _ _ _) rfl (by rfl) (.tmp 14) (.tmp 16) 60 rfl 62 i0 (.chan none) 1 8 Tryz.underlying60 hi hy0 hy1 hy2 rfl (by decide) sv j _ (by simp[Act.eval]) hS hSO4 b4 1 [.chan (some b3)] (by simp[Act.eval]) rfl hO4 ?_ ?_ ?_ ?_ hF4 ?_
  ·intro jj u hu
   rw[cell_of_heap hH4];simpa using hu
  ·intro u hu
   rw[List.mem_singleton.1 hu];rfl
  ·simp only[maxLen];omega
  ·omega
  clear hi hy0 hy1 hy2 i0;intro v5 W5 O5 hS5 hSO5 _ hOO hsm hF5;try walk_nrm
  have HC5:Hid (∀W,Keep Low O5 W5 W->∀ii,W.cell? ⟨b2,ii,none⟩=(#[.int .i64 xk, .int .i64 xo, .slice qa xd.length sa, .slice qk xs.length sk, .slice qc ecs.length sc, .slice qd eks.length sd]:Array Value)[ii]?):=λW hW ii=>(World.cell?_of_block (a:=⟨b2,ii,none⟩) ((hW.mine _ (hOO _ hO2)).trans (hsm _ hO2 HNS.out))).trans (HC2.out _ (Keep.refl _ _ _) ii)
  have hH5:=(hsm _ hO3 HNC.out).trans hH3;replace hO3:=hOO _ hO3;replace hO2:=hOO _ hO2;clear HC2 hsm hOO hSO4 hS hF4 hH3 hH4 hO4 HNS HNC;have HC2:=HC5;clear HC5
  (refine Nc (Bj _ _ _) rfl (by rfl) ?_ ?_;(focus (intro _;first | (simp[go_sem];done) | (simp[go_sem, *];done)));intro _ K hK;go_simp;refine hK _ ?_;clear hK K;try walk_nrm)
  repeat (first | (first | refine Jb (Bj _ _ _) ?_ | refine Py (Bj _ _ _) ?_ | refine Ti (Bj _ _ _) ?_ | refine wpK_label (Bj _ _ _) ?_ | refine Xx (Bj _ _ _) ?_ | refine Tj (Bj _ _ _) ?_ | refine Nz (Bj _ _ _) ?_) | (simp only[Tm]))
  (refine Es (Bj _ _ _) ?_;simp only[A4g,A4e,A4f,Nat.reduceAdd,A4m,List.range,List.range.loop])
  have _Y:=cs6 HC2;refine kV ?_;clear _Y;refine A0m (c:=b3) (vs:=(fx b3).map MI.val) rfl (by rfl) ?_ ?_ hO3 ⟨_,_,hH5⟩ (HGJ.out b3 _ _ ⟨hF5.still,hF5.low,λ_ h=>h.elim,hF5.os,hF5.out⟩) ?_
  ·intro W1
   go_simp;rfl
  ·intro W1
   simp[go_sem]
  try walk_nrm
  refine kV ?_;refine⟨ms.length - (j+1),by omega,j+1,cs++[b3],v5,_,_,_,_,_,_,_,_,_,_,_,_,_,by omega,rfl,rfl,by rw[A4d,hcl];rfl,?_,?_,λk hk=>⟨hSO5 k hk,λe=>?_⟩,⟨hF5.still,hF5.low,λk hk=>hF5.up k hk.1,hF5.os,hF5.out⟩⟩
  ·rw[HTK.out,List.zipWith_append (by rw[HTL.out,hcl]),HFX.out]
   rfl
  ·rw[A4r]
   exact hS5
  ·subst e
   rcases hS5.2 with⟨hv,_⟩ | ⟨g,cap',cur,hv,_,hg,_⟩
   ·rw[hv] at hk;cases hk
   ·rw[hv] at hk
    cases hk;rw[hH5] at hg;cases hg
 ·have hge:¬(j:Int)<(ms.length:Int):=by omega
  obtain rfl:j=ms.length:=by omega
  refine kV ?_;refine⟨rfl,_,hres _,cs,hcl,by rw[List.take_length],hS,hSO,hF1⟩
end Go.Proofs.YtbfljjcnbbmoaaaGreatDoor
