import Derived.Test.YtobbpffcggchmaaGreatDoorCG7
import Derived.Test.YtobbpffcggchmaaGreatDoorCI1
import Derived.Test.YtobbpffcggchmaaGreatDoorHk
import Derived.Conc.SmallLaws
namespace Go.Co
open Stil
open Go.Conc
section
variable {cs:List Frame}{k:List Item}{ops:Array Oper}
variable {τ : Type}{P : Program}{main : Bool}{Low : Nat}{pre : τ -> World -> Prop}{ok : τ -> (Nat -> Prop) -> World -> Goroutine -> Prop}{fn : FuncId}{a : Act}{x : τ}{O : Nat -> Prop}{w : World}
theorem Aei (T:OkL P main Low pre ok){b:Frame}{c d:Code}(n:b.fn=fn)(m:b.kind≠.early)
  (h:WpK ok fn c (U5 (λl f j g=>ok f j g (G (b.at l (.code d::k)) cs)) (λ_ _ _ _ _=>False)) a x O w):ok x O w (G (b.at a (.code (.seq c d)::k)) cs):=by
 refine T.ctl rfl rfl (λ_=>stepG_seq) (h b (.code d::k) cs n m λe l f j g q=>?_);cases e with
 | normal=>exact q
 | _=>exact q.elim
theorem Asr (T:OkL P main Low pre ok){b:Frame}{d:Nat}(h:ok x O w (G (b.at a (.inRegion ops (List.range ops.size)::k)) cs)):ok x O w (G (b.at a (.code (.region d ops false)::k)) cs):=
 T.ctl rfl rfl (λ_=>stepG_region) h
theorem A2b (T:OkL P main Low pre ok){b:Frame}{i:Nat}{rest:List Nat}{o:Oper}{v:Value}(g:ops[i]?=some o)(j:Region.wanted o (yielded ops a.tmps)=true)(f:b.kind≠.early)
  (hr:∀d:World,(execOp a.eval o).run P d=.ok (.value v) d) (e:∀d:World,(execOp a.eval o).events P d #[]=#[]) (h:ok x O w (G (b.at (a.put o.dst v) (.inRegion ops rest::k)) cs)):ok x O w (G (b.at a (.inRegion ops (i::rest)::k)) cs):=by
 refine T.ctl rfl rfl (λd=>?_) h;rw[stepG_value g j f (hr d)];unfold listed;rw[e,seen_none]
end
end Go.Co
namespace Go.Proofs.YtobbpffcggchmaaGreatDoor
open Tryz
open Stil
open Go.RowKit Go.Sort Go.BigFrame Go.Conc Go.Co
variable {Low c : Nat}
set_option maxRecDepth 100000 in
set_option maxHeartbeats 4000000 in
theorem A7q (w₀:World)(m:Dw)(hg:Agh m.arm)(hn:Ae1 m.net.net)(F:Aj m.net.net<=1000000)(d:VOk Low w₀ m):∃H,MIs w₀ m.vals H (J9 m.arm)/\∀w O,Held Low w₀ O w->
  okS prog Low c (H.map MI.val) O w (born prog (dcall 63 #[.chan (some c), .agg #[.int .i64 m.net.kind, .int .i64 m.net.op,m.net.av,m.net.kv,m.cv,m.kv]])):=by
 obtain⟨U,h1,C⟩:=A0g (c:=c) w₀ m.net hn F d.net;obtain⟨M,h2,A⟩:=A7p (c:=c) w₀ m hg d;refine⟨U++(M++[mi0 11]),?_,λw O hF=>?_⟩
 ·unfold J9
  rw[Q7,show m.arm.net=m.net.net by rw[Dw.arm_eq]];exact h1.append (h2.snoc 11)
 obtain⟨q,D,V⟩:=d.net.devs;obtain⟨B,n,I,_⟩:=d.net.kids;obtain⟨X,J,N,_⟩:=d.coils;obtain⟨Z,Y,L,_⟩:=d.kids;clear h1 h2 d hg hn F;obtain⟨⟨E,no,r,na,nv,y⟩,cv,cs,kv,R⟩:=m;dsimp only at V I N L C A ⊢;subst V I N L;rw[A9h,A9h,A9l,A97,MI.val,mi0];refine A19 func63 rrz rfl ?_;have HB:Hid (∀rest O w,Held Low w₀ O w->Lh prog (okS prog Low c) 91 #[.chan (some c), .agg #[.int .i64 E, .int .i64 no, .slice q r.length D, .slice B y.length n]] (U.map MI.val++rest) O w λ_ s j g=>s=rest/\Ext Low O j w g/\Held Low w₀ j g):=C;have HT:Hid (∀rest O w,Held Low w₀ O w->Lh prog (okS prog Low c) 92 #[.chan (some c), .agg #[.int .i64 E, .int .i64 no, .slice q r.length D, .slice B y.length n, .slice X cs.length J, .slice Z R.length Y]] (M.map MI.val++rest) O w λ_ s j g=>s=rest/\Ext Low O j w g/\Held Low w₀ j g):=A;clear C A;simp only[ntmps63,A86,A84,A85,Nat.reduceAdd,Nat.reduceSub,A9w,A9x,A92,A9z,A9u,A9t];refine Aei (Bd _ _ _) (fn:=63) rfl yEb ?_
 (refine Ez (Bd _ _ _) ?_;simp only[A86,A84,A85,A9c,List.range,List.range.loop])
 refine kB hF #[.int .i64 E, .int .i64 no, .slice q r.length D, .slice B y.length n, .slice X cs.length J, .slice Z R.length Y] 38 λO1 W1 b1 af aa u ac l=>?_
 try walk_nrm
 refine P6 (Bd _ _ _) ?_;simp only[U5];refine Aei (Bd _ _ _) (fn:=63) rfl yEb ?_;have _Y:=cs6 l;refine kW ?_;clear _Y
 (refine Gs (Bd _ _ _) rfl rrz rfl (HB _ _ _ aa) yAi ?_;rintro _ _ O2 W2 ⟨rfl,S,ab⟩;try walk_nrm)
 replace l:=Ai1 l S u;replace u:=S.own _ u;refine P6 (Bd _ _ _) ?_;simp only[U5];refine Aei (Bd _ _ _) (fn:=63) rfl yEb ?_;have _Y:=cs6 l;refine kW ?_;clear _Y
 (refine Gs (Bd _ _ _) rfl rrz rfl (HT _ _ _ ab) yAi ?_;rintro _ _ O3 W3 ⟨rfl,gI,ae⟩;try walk_nrm)
 refine P6 (Bd _ _ _) ?_;simp only[U5];refine Aei (Bd _ _ _) (fn:=63) rfl yEb ?_;refine kW ?_;refine Asr (Bd _ _ _) ?_;simp only[A86,A84,A85,Nat.reduceAdd,A9c,List.range,List.range.loop];refine A2b (Bd _ _ _) rfl rrz yEb (v:=.chan (some c)) (λ_=>by go_simp) (λ_=>by simp[go_sem]) ?_;refine Ax5 rfl rrz yEb rfl (by simp[Act.eval,Act.put]) krz ?_ (Axn func63 rfl rfl)
 ·rfl
variable {Low : Nat}{Stop : Goroutine -> World -> Prop}
def A7u (Low:Nat)(w₀:World)(m:Dw)(f:Nat->List MI):Prop:=∀c w O,Held Low w₀ O w->
 okS prog Low c ((f c).map MI.val) O w (born prog (dcall 63 #[.chan (some c), .agg #[.int .i64 m.net.kind, .int .i64 m.net.op,m.net.av,m.net.kv,m.cv,m.kv]]))
theorem take_snoc {α:Type}(l:List α)(j:Nat)(h:j<l.length):l.take (j+1)=l.take j++[l[j]]:=by rw[List.take_add_one,A9k h];rfl
theorem Ayu:(prog.info? 71).map (λi=>(i.zero,i.size,i.bytes))=some (some (.chan none),1,8):=krz
theorem A65 (w:World):Sem.run prog (Instr.makeChan 71 (.int .i64 0)) w=.ok (.chan (some w.heap.size)) (w.alloc (.chan 0 #[] false 0 0 false)):=by
 obtain⟨e,hi,g,d,f⟩:=info_parts Ov;exact run_makeChan underlying71 hi .i64 0 omz omz
theorem Azq (w:World):Sem.events prog (Instr.makeChan 71 (.int .i64 0)) w #[]=#[]:=by
 obtain⟨e,hi,g,d,f⟩:=info_parts Ov;exact events_makeChan underlying71 hi .i64 0 omz omz _
set_option maxRecDepth 100000 in
set_option maxHeartbeats 4000000 in
theorem A6g (w₀:World)(d:List Dw)(f:Dw->Nat->List MI)(a:Option Addr)(cap:Nat)(az:∀i (h:i<d.length),∃b o,a=some ⟨b,o,none⟩/\b<Low/\Agu w₀ b (o+i*6) d[i])(aM:∀m∈d,VOk Low w₀ m)(aE:∀m∈d,A7u Low w₀ m (f m))(hl:d.length<=1000)(Oo:Nat->Prop)(wo:World)(uA:Held Low w₀ Oo wo):
  Lh prog (okR prog Low Stop) 28 #[.slice a d.length cap] [] Oo wo λv x' O' w'=>∃cs:List Nat,cs.length=d.length/\x'=List.zipWith (λc m=>(c,(f m c).map MI.val,false)) cs d/\
   w'.ownsRow Low 71 1 v d.length (cs.map λc=>.chan (some c))/\(∀k,v.ownBlock=some k->O' k)/\Held Low w₀ O' w':=by
 have aT:=resultsC_tmp (P:=prog) (fn:=Tryz.f28) rfl;have aV:=hid aM;have aQ:=hid aE;have aU:=hid az;clear aM aE az;refine Ho func28 rrz rfl ?_;simp only[ntmps28,A86,A84,A85,Nat.reduceAdd,Nat.reduceSub,A9w,A9x,A92,A9z,A9u,A9t];refine kV ?_
 refine Xu (Bj _ _ _) (λn a' x' O' w'=>∃(j:Nat) (cs:List Nat) (X u5 u6 aH av aJ aA aO aG aw fC fB iR aC:Value),j<=d.length/\n=d.length - j/\a'=⟨#[.slice a d.length cap,undef, .slice none 0 0,X,undef,u5,u6, .slice a d.length cap, .int .i64 d.length, .int .i64 j,aH,av,aJ,aA,aO,aG,aw,fC,fB,iR,aC,undef],[]⟩/\
  cs.length=j/\x'=List.zipWith (λc m=>(c,(f m c).map MI.val,false)) cs (d.take j)/\w'.ownsRow Low 71 1 X j (cs.map λc=>.chan (some c))/\(∀k,X.ownBlock=some k->O' k)/\Held Low w₀ O' w') d.length
  ⟨0,[], .slice none 0 0,undef,undef,undef,undef,undef,undef,undef,undef,undef,undef,undef,undef,undef,Ban _,rfl,rfl,rfl,rfl,World.ownsRow_nil _ _ _ _,(λk l=>by cases l),uA⟩ ?_
 rintro n _ _ O w ⟨j,cs,X,u5,u6,aH,av,aJ,aA,aO,aG,aw,fC,fB,iR,aC,hj,rfl,rfl,an,rfl,hS,wY,ag⟩;try dsimp only
 by_cases aj:j<d.length
 ·have aY:(j:Int)<(d.length:Int):=by omega
  obtain⟨b,o,rfl,hb,hc⟩:=aU j aj;have hm:=A9a aj;have Y:=aV _ hm;have ab:=aQ _ hm;have oP:=hid (take_snoc d j aj);have aR:Hid ((d.take j).length=j):=by show _=_;rw[Ba7];omega
  revert hc Y ab oP
  generalize d[j]=x;intro hc Y ab oP;obtain⟨fx,ak⟩:∃fx,fx=f x:=⟨_,rfl⟩
  have bf:=hid ak;rw[<-ak] at ab;clear ak;obtain⟨Q,H,aK⟩:=Y.net.devs;obtain⟨I,R,ar,_⟩:=Y.net.kids;obtain⟨D,E,lG,_⟩:=Y.coils;obtain⟨F,s,aD,_⟩:=Y.kids;clear Y;obtain⟨⟨A,u,y,xa,kY,C⟩,a2,M,aZ,N⟩:=x;dsimp only at aK ar lG aD;subst aK ar lG aD;have dM:=hid (λW (hW:Keep Low O w W)=>hc.held (ag.rely hW) hb);have aS:Hid (∀c w O,Held Low w₀ O w->okS prog Low c ((fx c).map MI.val) O w (born prog (dcall 63 #[.chan (some c), .agg #[.int .i64 A, .int .i64 u, .slice Q y.length H, .slice I C.length R, .slice D M.length E, .slice F N.length s]]))):=ab;clear hc hm ab;have al:=Ext.refl Low O w;have _Y:=dM.out;simp only[Agu,Wl] at _Y;refine kV ?_;clear _Y;refine Na (Bj _ _ _) rfl rrz ?_ ?_
  ·intro _;simp[go_sem];done
  intro w₁ hR K hK;go_simp;refine hK _ _ ?_;clear hK K;obtain⟨O2,S,r,U,hO2,ac,V,hH2⟩:=Am0 ag hR #[.int .i64 0, .int .i64 0, .slice none 0 0, .slice none 0 0, .slice none 0 0, .slice none 0 0] 38;rw[<-S];clear S
  revert r U hO2 ac V hH2
  generalize w₁.alloc (.cells #[.int .i64 0, .int .i64 0, .slice none 0 0, .slice none 0 0, .slice none 0 0, .slice none 0 0] 38)=W2;generalize w₁.heap.size=b2;intro r U hO2 ac V hH2;replace r:=al.trans r;replace V :=λx hx=>V x (al.own x hx)
  clear hR w₁;try walk_nrm
  refine W9 (Bj _ _ _) b2 hO2 rfl rrz ?_ ?_
  ·exact zm
  intro w₁ hR K hK;have hh:=(hR.mine _ hO2).trans hH2;have y0:w₁.cell? ⟨b2,0,none⟩=some (.int .i64 0):=cell_of_heap hh 0;have z0:=frozen_of_heap hh 0;have y1:w₁.cell? ⟨b2,1,none⟩=some (.int .i64 0):=cell_of_heap hh 1;have z1:=frozen_of_heap hh 1;have y2:w₁.cell? ⟨b2,2,none⟩=some (.slice none 0 0):=cell_of_heap hh 2;have z2:=frozen_of_heap hh 2;have y3:w₁.cell? ⟨b2,3,none⟩=some (.slice none 0 0):=cell_of_heap hh 3;have z3:=frozen_of_heap hh 3;have y4:w₁.cell? ⟨b2,4,none⟩=some (.slice none 0 0):=cell_of_heap hh 4;have z4:=frozen_of_heap hh 4;have y5:w₁.cell? ⟨b2,5,none⟩=some (.slice none 0 0):=cell_of_heap hh 5;have z5:=frozen_of_heap hh 5;clear hh;go_simp;try (unfold stored;go_simp)
  have hh:=(hR.mine _ hO2).trans hH2;have hp:Put b2 w₁ ((((((w₁.setCell ⟨b2,0,none⟩ (.int .i64 A)).setCell ⟨b2,1,none⟩ (.int .i64 u)).setCell ⟨b2,2,none⟩ (.slice Q y.length H)).setCell ⟨b2,3,none⟩ (.slice I C.length R)).setCell ⟨b2,4,none⟩ (.slice D M.length E)).setCell ⟨b2,5,none⟩ (.slice F N.length s)):=(((((((Put.refl _ _).set 0 (.int .i64 A)).set 1 (.int .i64 u)).set 2 (.slice Q y.length H)).set 3 (.slice I C.length R)).set 4 (.slice D M.length E)).set 5 (.slice F N.length s))
  have ah:((((((w₁.setCell ⟨b2,0,none⟩ (.int .i64 A)).setCell ⟨b2,1,none⟩ (.int .i64 u)).setCell ⟨b2,2,none⟩ (.slice Q y.length H)).setCell ⟨b2,3,none⟩ (.slice I C.length R)).setCell ⟨b2,4,none⟩ (.slice D M.length E)).setCell ⟨b2,5,none⟩ (.slice F N.length s)).heap[b2]?=some (.cells #[.int .i64 A, .int .i64 u, .slice Q y.length H, .slice I C.length R, .slice D M.length E, .slice F N.length s] 38):=(heap_setCell (heap_setCell (heap_setCell (heap_setCell (heap_setCell (heap_setCell hh 0 (.int .i64 A)) 1 (.int .i64 u)) 2 (.slice Q y.length H)) 3 (.slice I C.length R)) 4 (.slice D M.length E)) 5 (.slice F N.length s))
  refine hK _ _ hp ?_;clear hK K hh y0 z0 y1 z1 y2 z2 y3 z3 y4 z4 y5 z5 hH2;replace r:=(r.rely hR).put hp ac V;replace U:=(U.rely hR).put hp ac
  revert r U ah
  clear hp hR;generalize ((((((w₁.setCell ⟨b2,0,none⟩ (.int .i64 A)).setCell ⟨b2,1,none⟩ (.int .i64 u)).setCell ⟨b2,2,none⟩ (.slice Q y.length H)).setCell ⟨b2,3,none⟩ (.slice I C.length R)).setCell ⟨b2,4,none⟩ (.slice D M.length E)).setCell ⟨b2,5,none⟩ (.slice F N.length s))=W2;intro ah r U;have T:Hid (∀W,Keep Low O2 W2 W->∀q,W.cell? ⟨b2,q,none⟩=(#[.int .i64 A, .int .i64 u, .slice Q y.length H, .slice I C.length R, .slice D M.length E, .slice F N.length s]:Array Value)[q]?):=λW hW q=>(hW.ext.cell (.inl hO2) q).trans (cell_of_heap ah q)
  clear ah;try walk_nrm
  have rE:IntKind.i64.wrap ((j:Int)+1)=((j+1:Nat):Int):=by rw[IntKind.wrap_i64];omega
  replace hS:=r.row hS (λk l=>.inl (wY k l));have aF:Hid (some b2≠X.ownBlock):=λe=>V b2 (wY b2 e.symm) rfl
  have oI:=λk l=>r.own _ (wY k l)
  clear al ag hb dM wY r V;repeat (first | (first | refine J6 (Bj _ _ _) ?_ | refine Rl (Bj _ _ _) ?_ | refine U2 (Bj _ _ _) ?_ | refine Rk (Bj _ _ _) ?_ | refine Yv (Bj _ _ _) ?_ | refine U3 (Bj _ _ _) ?_ | refine P6 (Bj _ _ _) ?_) | (simp only[U5,Lu,if_true,Bam,reduceIte,Nat.reduceEqDiff]))
  (refine Ez (Bj _ _ _) ?_;simp only[A86,A84,A85,Nat.reduceAdd,A9c,List.range,List.range.loop])
  refine Na (Bj _ _ _) rfl rrz ?_ ?_
  ·intro W1;simp[go_sem,Azq];done
  intro w₁ hR K hK;have aW:=A65 w₁;go_simp;refine hK _ _ ?_;clear hK K aW;obtain⟨O3,S,Z,ai,L,ax,af,aa⟩:=A0i U hR (.chan 0 #[] false 0 0 false);rw[<-S];clear S
  revert Z ai L ax af aa
  generalize w₁.alloc (.chan 0 #[] false 0 0 false)=W3;generalize w₁.heap.size=b3;intro Z ai L ax af aa;clear hR w₁;try walk_nrm
  replace T:=Ai1 T Z hO2;replace hO2:=Z.own _ hO2;replace hS:=Z.row hS (λk l=>.inl (oI k l));have qL:Hid (some b3≠X.ownBlock):=λe=>af b3 (oI b3 e.symm) rfl
  have rV:=λk l=>Z.own _ (oI k l)
  clear oI Z af U
  (refine O8 (Bj _ _ _) rfl rrz ?_ ?_;(focus (intro _;first | (simp[go_sem];done) | (simp[go_sem, *];done)));intro _ K hK;go_simp;refine hK _ ?_;clear hK K;try walk_nrm)
  repeat (first | (first | refine J6 (Bj _ _ _) ?_ | refine Rl (Bj _ _ _) ?_ | refine U2 (Bj _ _ _) ?_ | refine Rk (Bj _ _ _) ?_ | refine Yv (Bj _ _ _) ?_ | refine U3 (Bj _ _ _) ?_ | refine P6 (Bj _ _ _) ?_) | (simp only[U5,Lu,if_true,Bam,reduceIte,Nat.reduceEqDiff]))
  (refine Ez (Bj _ _ _) ?_;simp only[A86,A84,A85,Nat.reduceAdd,A9c,List.range,List.range.loop])
  (refine O8 (Bj _ _ _) rfl rrz ?_ ?_;(focus (intro _;first | (simp[go_sem];done) | (simp[go_sem, *];done)));intro _ K hK;go_simp;refine hK _ ?_;clear hK K;try walk_nrm)
  (refine O8 (Bj _ _ _) rfl rrz ?_ ?_;(focus (intro _;first | (simp[go_sem];done) | (simp[go_sem, *];done)));intro _ K hK;go_simp;refine hK _ ?_;clear hK K;try walk_nrm)
  refine Na (Bj _ _ _) rfl rrz ?_ ?_
  ·intro W1;simp[go_sem];done
  intro w₁ hR K hK;go_simp;refine hK _ _ ?_;clear hK K;obtain⟨O4,S,B,kF,ae,ay,rX,oK⟩:=A0i ai hR (.cells #[.chan (some b3)] 71);rw[<-S];clear S
  revert B kF ae ay rX oK
  generalize w₁.alloc (.cells #[.chan (some b3)] 71)=W4;generalize w₁.heap.size=b4;intro B kF ae ay rX oK;clear hR w₁;try walk_nrm
  replace T:=Ai1 T B hO2;replace hO2:=B.own _ hO2;replace hS:=B.row hS (λk l=>.inl (rV k l));have wX:=λk l=>B.own _ (rV k l)
  replace aa:=(B.mine _ L).trans aa;replace L:=B.own _ L;clear rV B rX ai;obtain⟨i0,hi,aN,aL,aB⟩:=info_parts Ayu;refine Aeg (Bj _ _ _) rfl rrz (.tmp 14) (.tmp 16) 68 rfl 71 i0 (.chan none) 1 8 underlying68 hi aN aL aB rfl dcz X j _ yAi hS wX b4 1 [.chan (some b3)] yAi rfl ae ?_ ?_ ?_ ?_ kF ?_
  ·intro jj aP hu
   rw[cell_of_heap oK];simpa using hu
  ·intro aP hu
   rw[List.mem_singleton.1 hu];rfl
  ·simp only[maxLen];omega
  ·omega
  clear hi aN aL aB i0;intro v5 W5 O5 aI oH _ rW ao J;try walk_nrm
  have au:Hid (∀W,Keep Low O5 W5 W->∀q,W.cell? ⟨b2,q,none⟩=(#[.int .i64 A, .int .i64 u, .slice Q y.length H, .slice I C.length R, .slice D M.length E, .slice F N.length s]:Array Value)[q]?):=λW hW q=>(World.cell?_of_block (a:=⟨b2,q,none⟩) ((hW.mine _ (rW _ hO2)).trans (ao _ hO2 aF.out))).trans (T _ (Keep.refl _ _ _) q)
  have ap:=(ao _ L qL.out).trans aa;replace L:=rW _ L;replace hO2:=rW _ hO2;clear T ao rW wX hS kF aa oK ae aF qL;have T:=au;clear au
  (refine O8 (Bj _ _ _) rfl rrz ?_ ?_;(focus (intro _;first | (simp[go_sem];done) | (simp[go_sem, *];done)));intro _ K hK;go_simp;refine hK _ ?_;clear hK K;try walk_nrm)
  repeat (first | (first | refine J6 (Bj _ _ _) ?_ | refine Rl (Bj _ _ _) ?_ | refine U2 (Bj _ _ _) ?_ | refine Rk (Bj _ _ _) ?_ | refine Yv (Bj _ _ _) ?_ | refine U3 (Bj _ _ _) ?_ | refine P6 (Bj _ _ _) ?_) | (simp only[U5]))
  (refine Ez (Bj _ _ _) ?_;simp only[A86,A84,A85,Nat.reduceAdd,A9c,List.range,List.range.loop])
  have _Y:=cs6 T;refine kV ?_;clear _Y;refine A5a (c:=b3) (vs:=(fx b3).map MI.val) rfl rrz ?_ ?_ L ⟨_,_,ap⟩ (aS b3 _ _ ⟨J.still,J.low,λ_ h=>h.elim,J.os,J.out⟩) ?_
  ·intro W1
   go_simp;rfl
  ·intro W1
   simp[go_sem]
  try walk_nrm
  refine kV ?_;refine⟨d.length - (j+1),omz,j+1,cs++[b3],v5,_,_,_,_,_,_,_,_,_,_,_,_,_,omz,rfl,rfl,by rw[A83,an];rfl,?_,?_,λk l=>⟨oH k l,λe=>?_⟩,⟨J.still,J.low,λk l=>J.up k l.1,J.os,J.out⟩⟩
  ·rw[oP.out,List.zipWith_append (by rw[aR.out,an]),bf.out]
   rfl
  ·rw[A9h]
   exact aI
  ·subst e
   rcases aI.2 with⟨hv,_⟩ | ⟨g,aX,cur,hv,_,hg,_⟩
   ·rw[hv] at l;cases l
   ·rw[hv] at l
    cases l;rw[ap] at hg;cases hg
 ·have a3:¬(j:Int)<(d.length:Int):=by omega
  obtain rfl:j=d.length:=omz
  refine kV ?_;refine⟨rfl,_,aT _,cs,an,by rw[Ba6],hS,wY,ag⟩
end Go.Proofs.YtobbpffcggchmaaGreatDoor
namespace Go.Co
open Go.Conc
section
variable {τ : Type}{P : Program}{main : Bool}{Low : Nat}{pre : τ -> World -> Prop}{ok : τ -> (Nat -> Prop) -> World -> Goroutine -> Prop}{fn : FuncId}{a : Act}{x : τ}{O : Nat -> Prop}{w : World}{b : Frame}{k : List Item}{cs : List Frame}
theorem A5b {ops:Array Oper}{todo:List Nat}(l:b.fn=fn)(m:b.kind≠.early)(h:Ud ok fn ops todo (U5 (λj d g f=>ok d g f (G (b.at j k) cs)) (λ_ _ _ _ _=>False)) a x O w):ok x O w (G (b.at a (.inRegion ops todo::k)) cs):=by
 refine h b k cs l m λe j d g f q=>?_
 cases e with
 | normal=>exact q
 | _=>exact q.elim
theorem A2c {c:Code}(l:b.fn=fn)(m:b.kind≠.early)(h:WpK ok fn c (U5 (λj d g f=>ok d g f (G (b.at j k) cs)) (λ_ _ _ _ _=>False)) a x O w):ok x O w (G (b.at a (.code c::k)) cs):=by
 refine h b k cs l m λe j d g f q=>?_
 cases e with
 | normal=>exact q
 | _=>exact q.elim
end
variable {c i:Nat}{cs:List Nat}
def LSt (cs:List Nat)(f:List (List Value))(i:Nat)(g:List Value)(L:List (Nat × List Value × Bool)):Prop:=
 (∀t,t<i->∀e,L[t]?=some e->e.2.2=true)/\L.length=cs.length/\(∀c,cs[i]?=some c->L[i]?=some (c,g,false))/\∀t c d,i<t->cs[t]?=some c->f[t]?=some d->L[t]?=some (c,d,false)
theorem LSt.begin (cs:List Nat)(d:List (List Value))(hl:d.length=cs.length)(f:List Value)(hr:∀r,d[0]?=some r->r=f):LSt cs d 0 f (List.zipWith (λc g=>(c,g,false)) cs d):=by
 refine⟨λt l=>by omega,by simp[hl],λc e=>?_,λt c g _ e j=>?_⟩
 ·rw[List.getElem?_zipWith,e]
  have h:0<d.length:=by have:=(List.getElem?_eq_some_iff.1 e).1;omega
  rw[A9k h];simp only;rw[hr _ (A9k h)]
 ·rw[List.getElem?_zipWith,e,j]
theorem LSt.recv {l:List (List Value)}{v:Value}{g:List Value}{L:List (Nat × List Value × Bool)}(h:LSt cs l i (v::g) L)(n:cs[i]?=some c):LSt cs l i g (L.set i (c,g,false)):=by
 have hi:i<L.length:=by rw[h.2.1];exact(List.getElem?_eq_some_iff.1 n).1
 refine⟨λt f e j=>h.1 t f e ?_,by rw[Bbl];exact h.2.1,λm d=>?_,λt m q f d o=>?_⟩
 ·rw[A9d omz] at j;exact j
 ·rw[n] at d;cases d
  rw[A9s hi]
 ·rw[A9d omz];exact h.2.2.2 t m q f d o
theorem LSt.done {d:List (List Value)}{L:List (Nat × List Value × Bool)}(h:LSt cs d i [] L)(u:cs[i]?=some c)(hl:d.length=cs.length)(n:List Value)(hr:∀r,d[i+1]?=some r->r=n):LSt cs d (i+1) n (L.set i (c,[],true)):=by
 have hi:i<L.length:=by rw[h.2.1];exact(List.getElem?_eq_some_iff.1 u).1
 refine⟨λt o e f=>?_,by rw[Bbl];exact h.2.1,λl j=>?_,λt l q o j g=>?_⟩
 ·by_cases m:t=i
  ·subst m
   rw[A9s hi] at f;cases f;rfl
  ·rw[A9d (λe=>m e.symm)] at f
   exact h.1 t omz e f
 ·rw[A9d omz]
  have s:i+1<d.length:=by rw[hl];exact(List.getElem?_eq_some_iff.1 j).1
  have g:=A9k s;have:=h.2.2.2 (i+1) l _ omz j g
  rw[this,hr _ g]
 ·rw[A9d omz]
  exact h.2.2.2 t l q omz j g
end Go.Co
namespace Go.Proofs.YtobbpffcggchmaaGreatDoor
open Tryz
open Go.RowKit Go.Sort Go.BigFrame Go.Conc Go.Co
variable {Low : Nat}{Stop : Goroutine -> World -> Prop}
def Xp (f:Dw->Nat->List MI)(cs:List Nat)(d:List Dw):List (List MI):=List.zipWith (λc m=>f m c) cs d
theorem Ap7 (f:Dw->Nat->List MI):∀(cs:List Nat) (d:List Dw),List.zipWith (λc m=>(c,(f m c).map MI.val,false)) cs d=List.zipWith (λc e=>(c,e,false)) cs ((Xp f cs d).map (·.map MI.val))
 | [],_=>by simp[Xp]
 | c::cs,[]=>by simp[Xp]
 | c::cs,m::d=>by
  have:=Ap7 f cs d
  simp only[Xp,Bcj,A9l] at this ⊢;rw[this]
set_option maxRecDepth 100000 in
set_option maxHeartbeats 8000000 in
theorem A6h (w₀:World)(r:List Dw)(f:Dw->Nat->List MI)(aa:Option Addr)(cap:Nat)(aV:∀i (h:i<r.length),∃b o,aa=some ⟨b,o,none⟩/\b<Low/\Agu w₀ b (o+i*6) r[i])(bi:∀m∈r,VOk Low w₀ m)(a2:∀m∈r,A7u Low w₀ m (f m))(hl:r.length<=1000)
  (ba:∀cs:List Nat,cs.length=r.length->(Xp f cs r).flatten.length<=1000000) (aN:∀m∈r,∀c,∀x∈f m c,EOk w₀ 0 x.e) (Oo:Nat->Prop) (wo:World) (uA:Held Low w₀ Oo wo) (U:Value) (zM:List Frame)
  {c0 c1 blk tl:Code} {id:Nat} {ops:Array Oper} (ar:Tryz.f9.body=some (.seq c0 (.seq c1 (.seq (.seq (.region id ops false) blk) (.seq tl .ret)))))
  (aQ:∀(T:Act) (D:World) (v:Value) (cs:List Nat),T.defers=[]->ResultsC prog Tryz.f9 T.tmps v->cs.length=r.length->D.ownsRow Low 48 3 v (Xp f cs r).flatten.length (Eu (Xp f cs r).flatten)->Held Low w₀ (λ_=>False) D->
   Stop (G {(base 9).at T [.code .ret] with mode:=.returning} zM) D):
  okR prog Low Stop [] Oo wo (G ((base 9).at ⟨#[U,undef, .slice none 0 0, .slice none 0 0,undef,undef,undef,U, .slice aa r.length cap,undef,undef,undef,undef,undef,undef,undef,undef,undef,undef,undef,undef,undef,undef,undef,undef],[]⟩ [.inRegion ops [2,3,4], .code blk, .code (.seq tl .ret)]) zM):=by
 unfold Tryz.f9 at ar;dsimp only at ar;cases ar;have bq:=resultsC_tmp (P:=prog) (fn:=Tryz.f9) rfl;have aL:=hid aQ;have aS:=hid ba;have a8:=hid aN;clear aQ ba aN;have mQ:=λO w h=>A6g (Stop:=Stop) w₀ r f aa cap aV bi a2 hl O w h
 have rq:=hid mQ;clear mQ aV bi a2;obtain⟨nv,aM⟩:∃nv,nv=Value.slice aa r.length cap:=⟨_,rfl⟩
 rw[<-aM] at rq ⊢;clear aM;refine A5b (fn:=9) rfl yDa ?_
 (refine Gs (Bj _ _ _) rfl rrz rfl (rq _ _ uA) yAi ?_;rintro F _ O1 W1 ⟨cs,af,rfl,y,E,M⟩;try walk_nrm)
 clear rq;obtain⟨aZ,bc,Z⟩:=Ac y;rw[Z];refine kV ?_;rw[<-Z];clear Z aZ bc;rw[Ap7];have br:Hid (∀s∈Xp f cs r,∀x∈s,EOk w₀ 0 x.e):=by
  intro s bm x hx;obtain⟨i,hi,rfl⟩:=List.mem_iff_getElem.1 bm;simp only[Xp,List.getElem_zipWith] at hx;exact a8 _ (A9a _) _ x hx
 have a9:(Xp f cs r).length=cs.length:=by simp[Xp,af]
 have bB:=aS cs af;have fV:=hid (λT D v h1 h2 h3 h4=>aL T D v cs h1 h2 af h3 h4);clear aL aS a8;generalize Xp f cs r=bU at*;obtain⟨A,a5⟩:∃A,A=r.length:=⟨_,rfl⟩
 rw[<-a5] at y af ⊢;have bC:A<=1000:=omz
 clear a5 hl;refine A2c (fn:=9) rfl yDa ?_;refine kV ?_;refine Xu (Bj _ _ _) (λn T x' Y D=>∃(i:Nat) (u u5 u6 bf aX bk a6 av fC fB iR aD az aF al:Value),i<=A/\n=A - i/\T=⟨#[U,undef, .slice none 0 0,u,undef,u5,u6,U,nv,F, .int .i64 A, .int .i64 i,bf,aX,bk,a6,av,fC,fB,iR,aD,az,aF,al,undef],[]⟩/\LSt cs (bU.map (·.map MI.val)) i (((bU[i]?).getD []).map MI.val) x'/\D.ownsRow Low 48 3 u ((bU.take i).flatten).length (Eu ((bU.take i).flatten))/\(∀k,u.ownBlock=some k->Y k/\F.ownBlock≠some k)/\D.ownsRow Low 71 1 F A (cs.map λc=>.chan (some c))/\(∀k,F.ownBlock=some k->Y k)/\Held Low w₀ Y D) A
  ⟨0, .slice none 0 0,undef,undef,undef,undef,undef,undef,undef,undef,undef,undef,undef,undef,undef,undef,Ban _,rfl,rfl,LSt.begin _ _ (by rw[A9j,a9]) _ (λak I=>?_),World.ownsRow_nil _ _ _ _,(λk d=>by cases d),y,E,M⟩ ?_
 ·rw[Bbm] at I
  cases ag:bU[0]? with
  | none=>rw[ag] at I;cases I
  | some r0=>rw[ag] at I;cases I;rfl
 clear y E M O1 W1 uA;rintro n _ aA O w ⟨i,u,u5,u6,bf,aX,bk,a6,av,fC,fB,iR,aD,az,aF,al,hi,rfl,rfl,l,C,N,y,E,M⟩;by_cases bA:i<A
 ·have bz:(i:Int)<(A:Int):=by omega
  have aI:i<cs.length:=omz
  have nJ:i<bU.length:=omz
  obtain⟨aZ,bc,Z,_,a7⟩:=Q8 (Joins.ownsRow_le y (Ban _));obtain⟨b,bo,aJ,ao⟩:=a7 i (.chan (some cs[i])) (by rw[Bbm,A9k aI];rfl);subst bo;clear a7;have ab:=A9k aI;have zS:=hid (take_snoc bU i nJ);have aW:(bU[i]?).getD []=bU[i]:=by rw[A9k nJ];rfl
  rw[aW] at l;have ql:=hid (br _ (A9a nJ));have bZ:Hid ((bU.take i).flatten.length+bU[i].length<=1000000):=by
   show _<=_
   have h1:(bU.take (i+1)).flatten.length<=bU.flatten.length:=by
    have:bU.flatten=(bU.take (i+1)).flatten++(bU.drop (i+1)).flatten:=by rw[<-Bbg,Bbu]
    rw[this,A83];omega
   rw[zS.out,Bbg,A83] at h1;simp only[Bag,Bci,Bbz] at h1;omega
  have yB:Hid (∀ak,(bU.map (·.map MI.val))[i+1]?=some ak->ak=((bU[i+1]?).getD []).map MI.val):=by
   intro ak I;rw[Bbm] at I;cases ag:bU[i+1]? with
   | none=>rw[ag] at I;cases I
   | some r0=>rw[ag] at I;cases I;rfl
  revert ao l ab zS ql bZ
  generalize bU[i]=s;generalize cs[i]=c;intro l ao ab zS ql bZ;have dM:=hid (λae (hW:Keep Low O w ae)=>(World.cell?_of_block (a:=⟨b,i,none⟩) (hW.mine _ (E b aJ))).trans ao);have zG:=E b aJ;have qy:=hid Z;clear ao aW aI nJ;rw[qy.out];have _Y:=dM.out;refine kV ?_;clear _Y;rw[<-qy.out];clear aJ qy zG Z dM;have a3:Hid (IntKind.i64.wrap ((i:Int)+1)=((i+1:Nat):Int)):=by show _=_;rw[IntKind.wrap_i64];omega
  refine Xu (Bj _ _ _) (λn T x' Y D=>∃(k:Nat) (u v6 aH aE aC aK ay aw aG:Value),k<=s.length/\n=s.length - k/\T=⟨#[U,undef, .slice none 0 0,u,undef, .chan (some c),v6,U,nv,F, .int .i64 A, .int .i64 i, .bool true, .pointer (some ⟨b,i,none⟩), .chan (some c), .chan (some c),aH,aE,aC,aK,ay,aw,aG,al,undef],[]⟩/\LSt cs (bU.map (·.map MI.val)) i ((s.drop k).map MI.val) x'/\D.ownsRow Low 48 3 u ((bU.take i).flatten++s.take k).length (Eu ((bU.take i).flatten++s.take k))/\(∀k,u.ownBlock=some k->Y k/\F.ownBlock≠some k)/\D.ownsRow Low 71 1 F A (cs.map λc=>.chan (some c))/\(∀k,F.ownBlock=some k->Y k)/\Held Low w₀ Y D) s.length
   ⟨0,u,u6,av,fC,fB,iR,aD,az,aF,Ban _,rfl,rfl,by rw[Bce];exact l,by rw[List.take_zero,Bbz];exact C,N,y,E,M⟩ ?_
  clear l C N y E M O w u aA;rintro n _ aA O w ⟨k,u,v6,aH,aE,aC,aK,ay,aw,aG,d,rfl,rfl,l,C,N,y,E,M⟩;have ap:Hid (∀g:World,(execOp (Act.eval ⟨#[U,undef, .slice none 0 0,u,undef, .chan (some c),v6,U,nv,F, .int .i64 A, .int .i64 i, .bool true, .pointer (some ⟨b,i,none⟩), .chan (some c), .chan (some c),aH,aE,aC,aK,ay,aw,aG,al,undef],[]⟩) {dst:=some 16,op:=.recv 71 (.tmp 15) true,type:=0,pos:= "l7_way.go:13",after:=#[],guard:=none}).run prog g=.ok (.comm #[rcase c (.agg #[.int .i64 0, .int .i64 0, .slice none 0 0])] true (.recv true)) g):=by
   intro g;go_simp;rfl
  by_cases ax:k<s.length
  ·have aT:=Bas ax
   have oP:Hid ((bU.take i).flatten++s.take (k+1)=((bU.take i).flatten++s.take k)++[s[k]]):=by show _=_;rw[take_snoc s k ax,A9r]
   have aj:=ql _ (A9a ax);have aP:Hid (((bU.take i).flatten++s.take k).length+1<=1000000):=by
    show _<=_
    have h1:=bZ.out;rw[A83,Ba7];omega
   rw[aT] at l;clear aT
   revert l oP aj
   generalize s[k]=m;intro l oP aj;obtain⟨S,Q,bg⟩:=Ac aj;clear aj;obtain⟨R,J,L,xa⟩:=m;dsimp only at bg;subst bg;rw[A9l] at l;have ah:=l.2.2.1 c ab;repeat (first | (first | refine J6 (Bj _ _ _) ?_ | refine Rl (Bj _ _ _) ?_ | refine U2 (Bj _ _ _) ?_ | refine Rk (Bj _ _ _) ?_ | refine Yv (Bj _ _ _) ?_ | refine U3 (Bj _ _ _) ?_ | refine P6 (Bj _ _ _) ?_) | (simp only[U5,Lu,if_true,Bam,reduceIte,Nat.reduceEqDiff]))
   (refine Ez (Bj _ _ _) ?_;simp only[A86,A84,A85,Nat.reduceAdd,A9c,List.range,List.range.loop])
   refine Ala (j:=i) (c:=c) (z:=.agg #[.int .i64 0, .int .i64 0, .slice none 0 0]) rfl rrz ah ap (λg=>by simp[execOp]) ?_ (λh=>by cases h);intro v bv aR;obtain⟨rfl,rfl⟩:=List.cons.inj aR;clear aR ah ap;replace l:=l.recv ab;simp only[MI.val];try walk_nrm
   refine kV ?_;have aB:=Ext.refl Low O w;refine Na (Bj _ _ _) rfl rrz ?_ ?_
   ·intro _;simp[go_sem];done
   intro g hR K hK;go_simp;refine hK _ _ ?_;clear hK K;obtain⟨O2,eO,B,V,H,ai,W,ac⟩:=Am0 M hR #[.int .i64 0, .int .i64 0, .slice none 0 0] 48;rw[<-eO];clear eO
   revert B V H ai W ac
   generalize g.alloc (.cells #[.int .i64 0, .int .i64 0, .slice none 0 0] 48)=W2;generalize g.heap.size=b2;intro B V H ai W ac;replace B:=aB.trans B;replace W :=λx hx=>W x (aB.own x hx)
   clear hR g;try walk_nrm
   refine W9 (Bj _ _ _) b2 H rfl rrz ?_ ?_
   ·intro g hR e he
    have q:=(hR.mine _ H).trans ac;have y0:g.cell? ⟨b2,0,none⟩=some (.int .i64 0):=cell_of_heap q 0;have z0:=frozen_of_heap q 0;have y1:g.cell? ⟨b2,1,none⟩=some (.int .i64 0):=cell_of_heap q 1;have z1:=frozen_of_heap q 1;have y2:g.cell? ⟨b2,2,none⟩=some (.slice none 0 0):=cell_of_heap q 2;have z2:=frozen_of_heap q 2;clear q;simp[go_sem,events_store_slice,storedEv, *] at he
    (first | (subst he;exact⟨_,_,rfl, .inl H⟩) | (rcases he with rfl | rfl<;>exact⟨_,_,rfl, .inl H⟩) | (rcases he with rfl | rfl | rfl | rfl<;>exact⟨_,_,rfl, .inl H⟩) | (rcases he with rfl | rfl | rfl | rfl | rfl | rfl<;>exact⟨_,_,rfl, .inl H⟩))
   intro g hR K hK;have q:=(hR.mine _ H).trans ac;have y0:g.cell? ⟨b2,0,none⟩=some (.int .i64 0):=cell_of_heap q 0;have z0:=frozen_of_heap q 0;have y1:g.cell? ⟨b2,1,none⟩=some (.int .i64 0):=cell_of_heap q 1;have z1:=frozen_of_heap q 1;have y2:g.cell? ⟨b2,2,none⟩=some (.slice none 0 0):=cell_of_heap q 2;have z2:=frozen_of_heap q 2;clear q;go_simp;try (unfold stored;go_simp)
   have q:=(hR.mine _ H).trans ac;have hp:Put b2 g (((g.setCell ⟨b2,0,none⟩ (.int .i64 R)).setCell ⟨b2,1,none⟩ (.int .i64 J)).setCell ⟨b2,2,none⟩ (.slice S L.length Q)):=((((Put.refl _ _).set 0 (.int .i64 R)).set 1 (.int .i64 J)).set 2 (.slice S L.length Q))
   have an:(((g.setCell ⟨b2,0,none⟩ (.int .i64 R)).setCell ⟨b2,1,none⟩ (.int .i64 J)).setCell ⟨b2,2,none⟩ (.slice S L.length Q)).heap[b2]?=some (.cells #[.int .i64 R, .int .i64 J, .slice S L.length Q] 48):=(heap_setCell (heap_setCell (heap_setCell q 0 (.int .i64 R)) 1 (.int .i64 J)) 2 (.slice S L.length Q))
   refine hK _ _ hp ?_;clear hK K q y0 z0 y1 z1 y2 z2 ac;replace B:=(B.rely hR).put hp ai W;replace V:=(V.rely hR).put hp ai
   revert B V an
   clear hp hR;generalize (((g.setCell ⟨b2,0,none⟩ (.int .i64 R)).setCell ⟨b2,1,none⟩ (.int .i64 J)).setCell ⟨b2,2,none⟩ (.slice S L.length Q))=W2;intro an B V;have bp:Hid (∀ae,Keep Low O2 W2 ae->∀ii,ae.cell? ⟨b2,ii,none⟩=(#[.int .i64 R, .int .i64 J, .slice S L.length Q]:Array Value)[ii]?):=λae hW ii=>(hW.ext.cell (.inl H) ii).trans (cell_of_heap an ii)
   clear an;try walk_nrm
   replace C:=B.row C (λk d=>.inl (N k d).1);replace y:=B.row y (λk d=>.inl (E k d));have zY:Hid (some b2≠u.ownBlock):=λe=>W b2 (N b2 e.symm).1 rfl
   have iM:∀k,u.ownBlock=some k->O2 k/\F.ownBlock≠some k:=λk d=>⟨B.own _ (N k d).1,(N k d).2⟩
   have mG:=λk d=>B.own _ (E k d)
   clear aB M N E B W O w;have _Y:=cs3 bp;refine kV ?_;clear _Y;refine Na (Bj _ _ _) rfl rrz ?_ ?_
   ·intro W1;simp[go_sem];done
   intro g hR K hK;go_simp;refine hK _ _ ?_;clear hK K;obtain⟨O4,eO,X,kF,au,aU,rX,oK⟩:=A0i V hR (.cells #[.int .i64 R, .int .i64 J, .slice S L.length Q] 48);rw[<-eO];clear eO
   revert X kF au aU rX oK
   generalize g.alloc (.cells #[.int .i64 R, .int .i64 J, .slice S L.length Q] 48)=W4;generalize g.heap.size=b4;intro X kF au aU rX oK;clear hR g;try walk_nrm
   replace C:=X.row C (λk d=>.inl (iM k d).1);replace y:=X.row y (λk d=>.inl (mG k d));have pY:=λk d=>X.own _ (iM k d).1
   have jU:=λk d=>X.own _ (mG k d)
   obtain⟨i0,aO,bj,bh,aY⟩:=info_parts Ov;refine Aeg (Bj _ _ _) rfl rrz (.tmp 19) (.tmp 21) 23 rfl 48 i0 (.agg #[.int .i64 0, .int .i64 0, .slice none 0 0]) 3 40 underlying23 aO bj bh aY rfl dcz u _ _ yAi C pY b4 1 [.int .i64 R, .int .i64 J, .slice S L.length Q] yAi rfl au ?_ ?_ ?_ ?_ kF ?_
   ·intro jj bn hu
    rw[cell_of_heap oK];simpa using hu
   ·intro bn hu
    simp only[A9o,A99,Bax] at hu;rcases hu with rfl | rfl | rfl<;>rfl
   ·have:=aP.out;simp only[maxLen];omega
   ·have:=aP.out;omega
   clear aO bj bh aY i0;intro v5 W5 O5 bs oH wZ rW bb kE;try walk_nrm
   have oh:=S9 y λk d=>bb k (jU k d) λe=>(iM k e.symm).2 d
   have wW:=λk d=>rW k (jU k d)
   have xC:∀k,v5.ownBlock=some k->O5 k/\F.ownBlock≠some k:=λk d=>⟨oH k d,λe=>by
    rcases wZ k d with h | h
    ·exact(iM k h.symm).2 e
    ·exact h (jU k e)⟩
   clear C y pY jU iM mG bb rW oH wZ kF V oK X rX;refine kV ?_;refine⟨s.length - (k+1),omz,k+1,v5,_,_,_,_,_,_,_,_,omz,rfl,rfl,l,?_,xC,oh,wW,kE⟩;rw[oP.out,Alk,A83];exact bs
  ·obtain rfl:k=s.length:=by omega
   rw[List.drop_length,A97] at l;rw[Ba6] at C;have ah:=l.2.2.1 c ab;repeat (first | (first | refine J6 (Bj _ _ _) ?_ | refine Rl (Bj _ _ _) ?_ | refine U2 (Bj _ _ _) ?_ | refine Rk (Bj _ _ _) ?_ | refine Yv (Bj _ _ _) ?_ | refine U3 (Bj _ _ _) ?_ | refine P6 (Bj _ _ _) ?_) | (simp only[U5,Lu,if_true,Bam,reduceIte,Nat.reduceEqDiff]))
   (refine Ez (Bj _ _ _) ?_;simp only[A86,A84,A85,Nat.reduceAdd,A9c,List.range,List.range.loop])
   refine Ala (j:=i) (c:=c) (z:=.agg #[.int .i64 0, .int .i64 0, .slice none 0 0]) rfl rrz ah ap (λg=>by simp[execOp]) (λv bv h=>by cases h) ?_;intro _;clear ah ap;replace l:=l.done ab (by rw[A9j,a9]) _ yB.out;try walk_nrm
   have bw:=a3.out;clear a3;refine kV ?_;refine⟨A - (i+1),omz,i+1,u,_,_,_,_,_,_,_,_,_,_,_,_,_,_,omz,rfl,rfl,l,?_,N,y,E,M⟩;rw[zS.out,Bbg];simp only[Bag,Bci,Bbz];exact C
 ·have bD:¬(i:Int)<(A:Int):=by omega
  obtain rfl:i=A:=omz
  have bu:∀e∈aA,e.2.2=true:=λe he=>by
   obtain⟨t,ht⟩:=List.mem_iff_getElem?.1 he;exact l.1 t (by have:=(List.getElem?_eq_some_iff.1 ht).1;rw[l.2.1,af] at this;exact this) e ht
  rw[A9y omz] at C;refine kV ?_;refine Aei (Bj _ _ _) (fn:=9) rfl yDa ?_;refine kV ?_;refine(Bj _ _ _).ctl rfl (g':=_) ?_ (λ_=>stepG_ret') ?_
  ·rfl
  refine A2a rfl bu λg hK=>fV _ g u rfl (bq _) ?_ ?_
  ·exact hK.ext.row C λk d=>.inl (N k d).1
  ·have:=M.rely hK
   exact⟨this.still,this.low,λ_ h=>h.elim,this.os,this.out⟩
end Go.Proofs.YtobbpffcggchmaaGreatDoor
