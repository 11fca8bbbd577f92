import Derived.Test.YtnpfcnolmkanfaaGreatDoorCG7
import Derived.Test.YtnpfcnolmkanfaaGreatDoorCI1
import Derived.Test.YtnpfcnolmkanfaaGreatDoorM57
import Derived.Conc.SmallLaws
namespace Go.Co
open Stil
open Go.Conc
section
variable {cs:List Frame}{k:List Item}{ops:Array Oper}
variable {τ : Type}{P : Program}{main : Bool}{Low : Nat}{pre : τ -> World -> Prop}{ok : τ -> (Nat -> Prop) -> World -> Goroutine -> Prop}{fn : FuncId}{a : Act}{x : τ}{O : Nat -> Prop}{w : World}
theorem Ad6 (T:OkL P main Low pre ok){b:Frame}{c d:Code}(n:b.fn=fn)(m:b.kind≠.early)
  (h:WpK ok fn c (U4 (λj l f g=>ok l f g (G (b.at j (.code d::k)) cs)) (λ_ _ _ _ _=>False)) a x O w):ok x O w (G (b.at a (.code (.seq c d)::k)) cs):=by
 refine T.ctl rfl rfl (λ_=>stepG_seq) (h b (.code d::k) cs n m λe j l f g q=>?_);cases e with
 | normal=>exact q
 | _=>exact q.elim
theorem Arb (T:OkL P main Low pre ok){b:Frame}{d:Nat}(h:ok x O w (G (b.at a (.inRegion ops (List.range ops.size)::k)) cs)):ok x O w (G (b.at a (.code (.region d ops false)::k)) cs):=
 T.ctl rfl rfl (λ_=>stepG_region) h
theorem Az3 (T:OkL P main Low pre ok){b:Frame}{i:Nat}{rest:List Nat}{o:Oper}{v:Value}(e:ops[i]?=some o)(j:Region.wanted o (yielded ops a.tmps)=true)(f:b.kind≠.early)
  (hr:∀d:World,(execOp a.eval o).run P d=.ok (.value v) d) (g:∀d:World,(execOp a.eval o).events P d #[]=#[]) (h:ok x O w (G (b.at (a.put o.dst v) (.inRegion ops rest::k)) cs)):ok x O w (G (b.at a (.inRegion ops (i::rest)::k)) cs):=by
 refine T.ctl rfl rfl (λd=>?_) h;rw[stepG_value e j f (hr d)];unfold listed;rw[g,seen_none]
end
end Go.Co
namespace Go.Proofs.YtnpfcnolmkanfaaGreatDoor
open Tryz
open Stil
open Go.RowKit Go.Sort Go.BigFrame Go.Conc Go.Co
variable {Low c : Nat}
set_option maxRecDepth 100000 in
set_option maxHeartbeats 4000000 in
theorem A47 (w₀:World)(m:Bj)(hg:Af4 m.arm)(Y:Aet m.net.net)(U:Am m.net.net<=1000000)(d:VOk Low w₀ m):∃J,MIs w₀ m.vals J (J3 m.arm)/\∀w O,Held Low w₀ O w->
  okS prog Low c (J.map MI.val) O w (born prog (dcall 37 #[.chan (some c), .agg #[.int .i64 m.net.kind, .int .i64 m.net.op,m.net.av,m.net.kv,m.cv,m.kv]])):=by
 obtain⟨M,h1,D⟩:=Ayn (c:=c) w₀ m.net Y U d.net;obtain⟨R,h2,C⟩:=A46 (c:=c) w₀ m hg d;refine⟨M++(R++[mi0 11]),?_,λw O hF=>?_⟩
 ·unfold J3
  rw[Q8,show m.arm.net=m.net.net by rw[Bj.arm_eq]];exact h1.append (h2.snoc 11)
 obtain⟨r,u,Z⟩:=d.net.devs;obtain⟨n,s,L,_⟩:=d.net.kids;obtain⟨pc,X,I,_⟩:=d.coils;obtain⟨V,H,N,_⟩:=d.kids;clear h1 h2 d hg Y U;obtain⟨⟨E,no,y,na,nv,q⟩,cv,cs,kv,F⟩:=m;dsimp only at Z L I N D C ⊢;subst Z L I N;rw[A6g,A6g,A6k,A66,MI.val,mi0];refine Az1 func37 rrz rfl ?_;have HB:Hid (∀rest O w,Held Low w₀ O w->Lc prog (okS prog Low c) 63 #[.chan (some c), .agg #[.int .i64 E, .int .i64 no, .slice r y.length u, .slice n q.length s]] (M.map MI.val++rest) O w λ_ A g j=>A=rest/\Ext Low O g w j/\Held Low w₀ g j):=D;have HT:Hid (∀rest O w,Held Low w₀ O w->Lc prog (okS prog Low c) 64 #[.chan (some c), .agg #[.int .i64 E, .int .i64 no, .slice r y.length u, .slice n q.length s, .slice pc cs.length X, .slice V F.length H]] (R.map MI.val++rest) O w λ_ A g j=>A=rest/\Ext Low O g w j/\Held Low w₀ g j):=C;clear D C;simp only[ntmps37,A55,A53,A54,Nat.reduceAdd,Nat.reduceSub,A6v,A6w,A61,A6y,A6t,A6s];refine Ad6 (Bd _ _ _) (fn:=37) rfl yEe ?_
 (refine Fa (Bd _ _ _) ?_;simp only[A55,A53,A54,A6b,List.range,List.range.loop])
 refine kB hF #[.int .i64 E, .int .i64 no, .slice r y.length u, .slice n q.length s, .slice pc cs.length X, .slice V F.length H] 46 λO1 W1 b1 af aa B ae l=>?_
 try walk_nrm
 refine Pm (Bd _ _ _) ?_;simp only[U4];refine Ad6 (Bd _ _ _) (fn:=37) rfl yEe ?_;have _Y:=cs6 l;refine kW ?_;clear _Y
 (refine Gt (Bd _ _ _) rfl rrz rfl (HB _ _ _ aa) yBc ?_;rintro _ _ O2 W2 ⟨rfl,S,ab⟩;try walk_nrm)
 replace l:=Aid l S B;replace B:=S.own _ B;refine Pm (Bd _ _ _) ?_;simp only[U4];refine Ad6 (Bd _ _ _) (fn:=37) rfl yEe ?_;have _Y:=cs6 l;refine kW ?_;clear _Y
 (refine Gt (Bd _ _ _) rfl rrz rfl (HT _ _ _ ab) yBc ?_;rintro _ _ O3 W3 ⟨rfl,iE,ac⟩;try walk_nrm)
 refine Pm (Bd _ _ _) ?_;simp only[U4];refine Ad6 (Bd _ _ _) (fn:=37) rfl yEe ?_;refine kW ?_;refine Arb (Bd _ _ _) ?_;simp only[A55,A53,A54,Nat.reduceAdd,A6b,List.range,List.range.loop];refine Az3 (Bd _ _ _) rfl rrz yEe (v:=.chan (some c)) (λ_=>by go_simp) (λ_=>by simp[go_sem]) ?_;refine Awg rfl rrz yEe rfl (by simp[Act.eval,Act.put]) krz ?_ (Av1 func37 rfl rfl)
 ·rfl
variable {Low : Nat}{Stop : Goroutine -> World -> Prop}
def A5a (Low:Nat)(w₀:World)(m:Bj)(f:Nat->List MI):Prop:=∀c w O,Held Low w₀ O w->
 okS prog Low c ((f c).map MI.val) O w (born prog (dcall 37 #[.chan (some c), .agg #[.int .i64 m.net.kind, .int .i64 m.net.op,m.net.av,m.net.kv,m.cv,m.kv]]))
theorem take_snoc {α:Type}(l:List α)(j:Nat)(h:j<l.length):l.take (j+1)=l.take j++[l[j]]:=by rw[List.take_add_one,A6j h];rfl
theorem Aw2:(prog.info? 57).map (λi=>(i.zero,i.size,i.bytes))=some (some (.chan none),1,8):=krz
theorem A4o (w:World):Sem.run prog (Instr.makeChan 57 (.int .i64 0)) w=.ok (.chan (some w.heap.size)) (w.alloc (.chan 0 #[] false 0 0 false)):=by
 obtain⟨d,hi,g,f,e⟩:=info_parts Ael;exact run_makeChan underlying57 hi .i64 0 omz omz
theorem Axx (w:World):Sem.events prog (Instr.makeChan 57 (.int .i64 0)) w #[]=#[]:=by
 obtain⟨d,hi,g,f,e⟩:=info_parts Ael;exact events_makeChan underlying57 hi .i64 0 omz omz _
set_option maxRecDepth 100000 in
set_option maxHeartbeats 4000000 in
theorem A3y (w₀:World)(d:List Bj)(f:Bj->Nat->List MI)(a:Option Addr)(cap:Nat)(aJ:∀i (h:i<d.length),∃b o,a=some ⟨b,o,none⟩/\b<Low/\Agf w₀ b (o+i*6) d[i])(aD:∀m∈d,VOk Low w₀ m)(aI:∀m∈d,A5a Low w₀ m (f m))(hl:d.length<=1000)(Oo:Nat->Prop)(wo:World)(wR:Held Low w₀ Oo wo):
  Lc prog (okR prog Low Stop) 20 #[.slice a d.length cap] [] Oo wo λv x' O' w'=>∃cs:List Nat,cs.length=d.length/\x'=List.zipWith (λc m=>(c,(f m c).map MI.val,false)) cs d/\
   w'.ownsRow Low 57 1 v d.length (cs.map λc=>.chan (some c))/\(∀k,v.ownBlock=some k->O' k)/\Held Low w₀ O' w':=by
 have aW:=resultsC_tmp (P:=prog) (fn:=Tryz.f20) rfl;have aV:=hid aD;have aQ:=hid aI;have aT:=hid aJ;clear aD aI aJ;refine Hu func20 rrz rfl ?_;simp only[ntmps20,A55,A53,A54,Nat.reduceAdd,Nat.reduceSub,A6v,A6w,A61,A6y,A6t,A6s];refine kV ?_
 refine Xv (Bh _ _ _) (λn a' x' O' w'=>∃(j:Nat) (cs:List Nat) (V u5 u6 aL aK az au aE aP aB jW jV pU ax:Value),j<=d.length/\n=d.length - j/\a'=⟨#[.slice a d.length cap,undef, .slice none 0 0,V,undef,u5,u6, .slice a d.length cap, .int .i64 d.length, .int .i64 j,aL,aK,az,au,aE,aP,aB,jW,jV,pU,ax,undef],[]⟩/\
  cs.length=j/\x'=List.zipWith (λc m=>(c,(f m c).map MI.val,false)) cs (d.take j)/\w'.ownsRow Low 57 1 V j (cs.map λc=>.chan (some c))/\(∀k,V.ownBlock=some k->O' k)/\Held Low w₀ O' w') d.length
  ⟨0,[], .slice none 0 0,undef,undef,undef,undef,undef,undef,undef,undef,undef,undef,undef,undef,undef,A7l _,rfl,rfl,rfl,rfl,World.ownsRow_nil _ _ _ _,(λk l=>by cases l),wR⟩ ?_
 rintro n _ _ O w ⟨j,cs,V,u5,u6,aL,aK,az,au,aE,aP,aB,jW,jV,pU,ax,hj,rfl,rfl,ak,rfl,hS,zD,ah⟩;try dsimp only
 by_cases al:j<d.length
 ·have a2:(j:Int)<(d.length:Int):=by omega
  obtain⟨b,o,rfl,hb,hc⟩:=aT j al;have hm:=A59 al;have Z:=aV _ hm;have ab:=aQ _ hm;have jQ:=hid (take_snoc d j al);have jr:Hid ((d.take j).length=j):=by show _=_;rw[A74];omega
  revert hc Z ab jQ
  generalize d[j]=x;intro hc Z ab jQ;obtain⟨fx,aj⟩:∃fx,fx=f x:=⟨_,rfl⟩
  have lg:=hid aj;rw[<-aj] at ab;clear aj;obtain⟨M,y,aC⟩:=Z.net.devs;obtain⟨F,Q,ap,_⟩:=Z.net.kids;obtain⟨B,R,mZ,_⟩:=Z.coils;obtain⟨E,A,aG,_⟩:=Z.kids;clear Z;obtain⟨⟨N,H,L,xa,mg,I⟩,aZ,C,a3,D⟩:=x;dsimp only at aC ap mZ aG;subst aC ap mZ aG;have iG:=hid (λW (hW:Keep Low O w W)=>hc.held (ah.rely hW) hb);have aS:Hid (∀c w O,Held Low w₀ O w->okS prog Low c ((fx c).map MI.val) O w (born prog (dcall 37 #[.chan (some c), .agg #[.int .i64 N, .int .i64 H, .slice M L.length y, .slice F I.length Q, .slice B C.length R, .slice E D.length A]]))):=ab;clear hc hm ab;have ao:=Ext.refl Low O w;have _Y:=iG.out;simp only[Agf,Wn] at _Y;refine kV ?_;clear _Y;refine Md (Bh _ _ _) rfl rrz ?_ ?_
  ·intro _;simp[go_sem];done
  intro w₁ hR K hK;go_simp;refine hK _ _ ?_;clear hK K;obtain⟨O2,U,r,T,hO2,ae,Y,hH2⟩:=Al3 ah hR #[.int .i64 0, .int .i64 0, .slice none 0 0, .slice none 0 0, .slice none 0 0, .slice none 0 0] 46;rw[<-U];clear U
  revert r T hO2 ae Y hH2
  generalize w₁.alloc (.cells #[.int .i64 0, .int .i64 0, .slice none 0 0, .slice none 0 0, .slice none 0 0, .slice none 0 0] 46)=W2;generalize w₁.heap.size=b2;intro r T hO2 ae Y hH2;replace r:=ao.trans r;replace Y :=λx hx=>Y x (ao.own x hx)
  clear hR w₁;try walk_nrm
  refine Xa (Bh _ _ _) b2 hO2 rfl rrz ?_ ?_
  ·exact zm
  intro w₁ hR K hK;have hh:=(hR.mine _ hO2).trans hH2;have y0:w₁.cell? ⟨b2,0,none⟩=some (.int .i64 0):=cell_of_heap hh 0;have z0:=frozen_of_heap hh 0;have y1:w₁.cell? ⟨b2,1,none⟩=some (.int .i64 0):=cell_of_heap hh 1;have z1:=frozen_of_heap hh 1;have y2:w₁.cell? ⟨b2,2,none⟩=some (.slice none 0 0):=cell_of_heap hh 2;have z2:=frozen_of_heap hh 2;have y3:w₁.cell? ⟨b2,3,none⟩=some (.slice none 0 0):=cell_of_heap hh 3;have z3:=frozen_of_heap hh 3;have y4:w₁.cell? ⟨b2,4,none⟩=some (.slice none 0 0):=cell_of_heap hh 4;have z4:=frozen_of_heap hh 4;have y5:w₁.cell? ⟨b2,5,none⟩=some (.slice none 0 0):=cell_of_heap hh 5;have z5:=frozen_of_heap hh 5;clear hh;go_simp;try (unfold stored;go_simp)
  have hh:=(hR.mine _ hO2).trans hH2;have hp:Put b2 w₁ ((((((w₁.setCell ⟨b2,0,none⟩ (.int .i64 N)).setCell ⟨b2,1,none⟩ (.int .i64 H)).setCell ⟨b2,2,none⟩ (.slice M L.length y)).setCell ⟨b2,3,none⟩ (.slice F I.length Q)).setCell ⟨b2,4,none⟩ (.slice B C.length R)).setCell ⟨b2,5,none⟩ (.slice E D.length A)):=(((((((Put.refl _ _).set 0 (.int .i64 N)).set 1 (.int .i64 H)).set 2 (.slice M L.length y)).set 3 (.slice F I.length Q)).set 4 (.slice B C.length R)).set 5 (.slice E D.length A))
  have ag:((((((w₁.setCell ⟨b2,0,none⟩ (.int .i64 N)).setCell ⟨b2,1,none⟩ (.int .i64 H)).setCell ⟨b2,2,none⟩ (.slice M L.length y)).setCell ⟨b2,3,none⟩ (.slice F I.length Q)).setCell ⟨b2,4,none⟩ (.slice B C.length R)).setCell ⟨b2,5,none⟩ (.slice E D.length A)).heap[b2]?=some (.cells #[.int .i64 N, .int .i64 H, .slice M L.length y, .slice F I.length Q, .slice B C.length R, .slice E D.length A] 46):=(heap_setCell (heap_setCell (heap_setCell (heap_setCell (heap_setCell (heap_setCell hh 0 (.int .i64 N)) 1 (.int .i64 H)) 2 (.slice M L.length y)) 3 (.slice F I.length Q)) 4 (.slice B C.length R)) 5 (.slice E D.length A))
  refine hK _ _ hp ?_;clear hK K hh y0 z0 y1 z1 y2 z2 y3 z3 y4 z4 y5 z5 hH2;replace r:=(r.rely hR).put hp ae Y;replace T:=(T.rely hR).put hp ae
  revert r T ag
  clear hp hR;generalize ((((((w₁.setCell ⟨b2,0,none⟩ (.int .i64 N)).setCell ⟨b2,1,none⟩ (.int .i64 H)).setCell ⟨b2,2,none⟩ (.slice M L.length y)).setCell ⟨b2,3,none⟩ (.slice F I.length Q)).setCell ⟨b2,4,none⟩ (.slice B C.length R)).setCell ⟨b2,5,none⟩ (.slice E D.length A))=W2;intro ag r T;have S:Hid (∀W,Keep Low O2 W2 W->∀q,W.cell? ⟨b2,q,none⟩=(#[.int .i64 N, .int .i64 H, .slice M L.length y, .slice F I.length Q, .slice B C.length R, .slice E D.length A]:Array Value)[q]?):=λW hW q=>(hW.ext.cell (.inl hO2) q).trans (cell_of_heap ag q)
  clear ag;try walk_nrm
  have qj:IntKind.i64.wrap ((j:Int)+1)=((j+1:Nat):Int):=by rw[IntKind.wrap_i64];omega
  replace hS:=r.row hS (λk l=>.inl (zD k l));have aN:Hid (some b2≠V.ownBlock):=λe=>Y b2 (zD b2 e.symm) rfl
  have qO:=λk l=>r.own _ (zD k l)
  clear ao ah hb iG zD r Y;repeat (first | (first | refine Jz (Bh _ _ _) ?_ | refine Ro (Bh _ _ _) ?_ | refine U2 (Bh _ _ _) ?_ | refine Rn (Bh _ _ _) ?_ | refine Y7 (Bh _ _ _) ?_ | refine U3 (Bh _ _ _) ?_ | refine Pm (Bh _ _ _) ?_) | (simp only[U4,Lj,if_true,A7k,reduceIte,Nat.reduceEqDiff]))
  (refine Fa (Bh _ _ _) ?_;simp only[A55,A53,A54,Nat.reduceAdd,A6b,List.range,List.range.loop])
  refine Md (Bh _ _ _) rfl rrz ?_ ?_
  ·intro W1;simp[go_sem,Axx];done
  intro w₁ hR K hK;have aR:=A4o w₁;go_simp;refine hK _ _ ?_;clear hK K aR;obtain⟨O3,U,X,ai,s,ay,ac,aa⟩:=Ayp T hR (.chan 0 #[] false 0 0 false);rw[<-U];clear U
  revert X ai s ay ac aa
  generalize w₁.alloc (.chan 0 #[] false 0 0 false)=W3;generalize w₁.heap.size=b3;intro X ai s ay ac aa;clear hR w₁;try walk_nrm
  replace S:=Aid S X hO2;replace hO2:=X.own _ hO2;replace hS:=X.row hS (λk l=>.inl (qO k l));have aM:Hid (some b3≠V.ownBlock):=λe=>ac b3 (qO b3 e.symm) rfl
  have uM:=λk l=>X.own _ (qO k l)
  clear qO X ac T
  (refine Ov (Bh _ _ _) rfl rrz ?_ ?_;(focus (intro _;first | (simp[go_sem];done) | (simp[go_sem, *];done)));intro _ K hK;go_simp;refine hK _ ?_;clear hK K;try walk_nrm)
  repeat (first | (first | refine Jz (Bh _ _ _) ?_ | refine Ro (Bh _ _ _) ?_ | refine U2 (Bh _ _ _) ?_ | refine Rn (Bh _ _ _) ?_ | refine Y7 (Bh _ _ _) ?_ | refine U3 (Bh _ _ _) ?_ | refine Pm (Bh _ _ _) ?_) | (simp only[U4,Lj,if_true,A7k,reduceIte,Nat.reduceEqDiff]))
  (refine Fa (Bh _ _ _) ?_;simp only[A55,A53,A54,Nat.reduceAdd,A6b,List.range,List.range.loop])
  (refine Ov (Bh _ _ _) rfl rrz ?_ ?_;(focus (intro _;first | (simp[go_sem];done) | (simp[go_sem, *];done)));intro _ K hK;go_simp;refine hK _ ?_;clear hK K;try walk_nrm)
  (refine Ov (Bh _ _ _) rfl rrz ?_ ?_;(focus (intro _;first | (simp[go_sem];done) | (simp[go_sem, *];done)));intro _ K hK;go_simp;refine hK _ ?_;clear hK K;try walk_nrm)
  refine Md (Bh _ _ _) rfl rrz ?_ ?_
  ·intro W1;simp[go_sem];done
  intro w₁ hR K hK;go_simp;refine hK _ _ ?_;clear hK K;obtain⟨O4,U,J,lZ,af,aw,qU,qW⟩:=Ayp ai hR (.cells #[.chan (some b3)] 57);rw[<-U];clear U
  revert J lZ af aw qU qW
  generalize w₁.alloc (.cells #[.chan (some b3)] 57)=W4;generalize w₁.heap.size=b4;intro J lZ af aw qU qW;clear hR w₁;try walk_nrm
  replace S:=Aid S J hO2;replace hO2:=J.own _ hO2;replace hS:=J.row hS (λk l=>.inl (uM k l));have zC:=λk l=>J.own _ (uM k l)
  replace aa:=(J.mine _ s).trans aa;replace s:=J.own _ s;clear uM J qU ai;obtain⟨i0,hi,aA,av,aH⟩:=info_parts Aw2;refine Ad5 (Bh _ _ _) rfl rrz (.tmp 14) (.tmp 16) 55 rfl 57 i0 (.chan none) 1 8 underlying55 hi aA av aH rfl dcz V j _ yBc hS zC b4 1 [.chan (some b3)] yBc rfl af ?_ ?_ ?_ ?_ lZ ?_
  ·intro jj aU hu
   rw[cell_of_heap qW];simpa using hu
  ·intro aU hu
   rw[List.mem_singleton.1 hu];rfl
  ·simp only[maxLen];omega
  ·omega
  clear hi aA av aH i0;intro v5 W5 O5 ar qM _ uN an u;try walk_nrm
  have aF:Hid (∀W,Keep Low O5 W5 W->∀q,W.cell? ⟨b2,q,none⟩=(#[.int .i64 N, .int .i64 H, .slice M L.length y, .slice F I.length Q, .slice B C.length R, .slice E D.length A]:Array Value)[q]?):=λW hW q=>(World.cell?_of_block (a:=⟨b2,q,none⟩) ((hW.mine _ (uN _ hO2)).trans (an _ hO2 aN.out))).trans (S _ (Keep.refl _ _ _) q)
  have aO:=(an _ s aM.out).trans aa;replace s:=uN _ s;replace hO2:=uN _ hO2;clear S an uN zC hS lZ aa qW af aN aM;have S:=aF;clear aF
  (refine Ov (Bh _ _ _) rfl rrz ?_ ?_;(focus (intro _;first | (simp[go_sem];done) | (simp[go_sem, *];done)));intro _ K hK;go_simp;refine hK _ ?_;clear hK K;try walk_nrm)
  repeat (first | (first | refine Jz (Bh _ _ _) ?_ | refine Ro (Bh _ _ _) ?_ | refine U2 (Bh _ _ _) ?_ | refine Rn (Bh _ _ _) ?_ | refine Y7 (Bh _ _ _) ?_ | refine U3 (Bh _ _ _) ?_ | refine Pm (Bh _ _ _) ?_) | (simp only[U4]))
  (refine Fa (Bh _ _ _) ?_;simp only[A55,A53,A54,Nat.reduceAdd,A6b,List.range,List.range.loop])
  have _Y:=cs6 S;refine kV ?_;clear _Y;refine A2x (c:=b3) (vs:=(fx b3).map MI.val) rfl rrz ?_ ?_ s ⟨_,_,aO⟩ (aS b3 _ _ ⟨u.still,u.low,λ_ h=>h.elim,u.os,u.out⟩) ?_
  ·intro W1
   go_simp;rfl
  ·intro W1
   simp[go_sem]
  try walk_nrm
  refine kV ?_;refine⟨d.length - (j+1),omz,j+1,cs++[b3],v5,_,_,_,_,_,_,_,_,_,_,_,_,_,omz,rfl,rfl,by rw[A52,ak];rfl,?_,?_,λk l=>⟨qM k l,λe=>?_⟩,⟨u.still,u.low,λk l=>u.up k l.1,u.os,u.out⟩⟩
  ·rw[jQ.out,List.zipWith_append (by rw[jr.out,ak]),lg.out]
   rfl
  ·rw[A6g]
   exact ar
  ·subst e
   rcases ar.2 with⟨hv,_⟩ | ⟨g,aX,cur,hv,_,hg,_⟩
   ·rw[hv] at l;cases l
   ·rw[hv] at l
    cases l;rw[aO] at hg;cases hg
 ·have aY:¬(j:Int)<(d.length:Int):=by omega
  obtain rfl:j=d.length:=omz
  refine kV ?_;refine⟨rfl,_,aW _,cs,ak,by rw[A73],hS,zD,ah⟩
end Go.Proofs.YtnpfcnolmkanfaaGreatDoor
namespace Go.Co
open Go.Conc
section
variable {τ : Type}{P : Program}{main : Bool}{Low : Nat}{pre : τ -> World -> Prop}{ok : τ -> (Nat -> Prop) -> World -> Goroutine -> Prop}{fn : FuncId}{a : Act}{x : τ}{O : Nat -> Prop}{w : World}{b : Frame}{k : List Item}{cs : List Frame}
theorem A2y {ops:Array Oper}{todo:List Nat}(m:b.fn=fn)(l:b.kind≠.early)(h:Uc ok fn ops todo (U4 (λg j d f=>ok j d f (G (b.at g k) cs)) (λ_ _ _ _ _=>False)) a x O w):ok x O w (G (b.at a (.inRegion ops todo::k)) cs):=by
 refine h b k cs m l λe g j d f q=>?_
 cases e with
 | normal=>exact q
 | _=>exact q.elim
theorem Az4 {c:Code}(m:b.fn=fn)(l:b.kind≠.early)(h:WpK ok fn c (U4 (λg j d f=>ok j d f (G (b.at g k) cs)) (λ_ _ _ _ _=>False)) a x O w):ok x O w (G (b.at a (.code c::k)) cs):=by
 refine h b k cs m l λe g j d f q=>?_
 cases e with
 | normal=>exact q
 | _=>exact q.elim
end
variable {c i:Nat}{cs:List Nat}
def LSt (cs:List Nat)(g:List (List Value))(i:Nat)(f:List Value)(L:List (Nat × List Value × Bool)):Prop:=
 (∀t,t<i->∀e,L[t]?=some e->e.2.2=true)/\L.length=cs.length/\(∀c,cs[i]?=some c->L[i]?=some (c,f,false))/\∀t c d,i<t->cs[t]?=some c->g[t]?=some d->L[t]?=some (c,d,false)
theorem LSt.begin (cs:List Nat)(d:List (List Value))(hl:d.length=cs.length)(f:List Value)(hr:∀r,d[0]?=some r->r=f):LSt cs d 0 f (List.zipWith (λc g=>(c,g,false)) cs d):=by
 refine⟨λt l=>by omega,by simp[hl],λc e=>?_,λt c g _ e j=>?_⟩
 ·rw[List.getElem?_zipWith,e]
  have h:0<d.length:=by have:=(List.getElem?_eq_some_iff.1 e).1;omega
  rw[A6j h];simp only;rw[hr _ (A6j h)]
 ·rw[List.getElem?_zipWith,e,j]
theorem LSt.recv {n:List (List Value)}{v:Value}{g:List Value}{L:List (Nat × List Value × Bool)}(h:LSt cs n i (v::g) L)(m:cs[i]?=some c):LSt cs n i g (L.set i (c,g,false)):=by
 have hi:i<L.length:=by rw[h.2.1];exact(List.getElem?_eq_some_iff.1 m).1
 refine⟨λt f e j=>h.1 t f e ?_,by rw[A8i];exact h.2.1,λl d=>?_,λt l q f d o=>?_⟩
 ·rw[A6c omz] at j;exact j
 ·rw[m] at d;cases d
  rw[A6r hi]
 ·rw[A6c omz];exact h.2.2.2 t l q f d o
theorem LSt.done {d:List (List Value)}{L:List (Nat × List Value × Bool)}(h:LSt cs d i [] L)(q:cs[i]?=some c)(hl:d.length=cs.length)(n:List Value)(hr:∀r,d[i+1]?=some r->r=n):LSt cs d (i+1) n (L.set i (c,[],true)):=by
 have hi:i<L.length:=by rw[h.2.1];exact(List.getElem?_eq_some_iff.1 q).1
 refine⟨λt o e g=>?_,by rw[A8i];exact h.2.1,λl f=>?_,λt l s o f j=>?_⟩
 ·by_cases m:t=i
  ·subst m
   rw[A6r hi] at g;cases g;rfl
  ·rw[A6c (λe=>m e.symm)] at g
   exact h.1 t omz e g
 ·rw[A6c omz]
  have u:i+1<d.length:=by rw[hl];exact(List.getElem?_eq_some_iff.1 f).1
  have j:=A6j u;have:=h.2.2.2 (i+1) l _ omz f j
  rw[this,hr _ j]
 ·rw[A6c omz]
  exact h.2.2.2 t l s omz f j
end Go.Co
namespace Go.Proofs.YtnpfcnolmkanfaaGreatDoor
open Tryz
open Go.RowKit Go.Sort Go.BigFrame Go.Conc Go.Co
variable {Low : Nat}{Stop : Goroutine -> World -> Prop}
def Xo (f:Bj->Nat->List MI)(cs:List Nat)(d:List Bj):List (List MI):=List.zipWith (λc m=>f m c) cs d
theorem Ao5 (f:Bj->Nat->List MI):∀(cs:List Nat) (d:List Bj),List.zipWith (λc m=>(c,(f m c).map MI.val,false)) cs d=List.zipWith (λc e=>(c,e,false)) cs ((Xo f cs d).map (·.map MI.val))
 | [],_=>by simp[Xo]
 | c::cs,[]=>by simp[Xo]
 | c::cs,m::d=>by
  have:=Ao5 f cs d
  simp only[Xo,A9g,A6k] at this ⊢;rw[this]
set_option maxRecDepth 100000 in
set_option maxHeartbeats 8000000 in
theorem A3z (w₀:World)(r:List Bj)(f:Bj->Nat->List MI)(aa:Option Addr)(cap:Nat)(bf:∀i (h:i<r.length),∃b o,aa=some ⟨b,o,none⟩/\b<Low/\Agf w₀ b (o+i*6) r[i])(a2:∀m∈r,VOk Low w₀ m)(bc:∀m∈r,A5a Low w₀ m (f m))(hl:r.length<=1000)
  (bh:∀cs:List Nat,cs.length=r.length->(Xo f cs r).flatten.length<=1000000) (aN:∀m∈r,∀c,∀x∈f m c,EOk w₀ 0 x.e) (Oo:Nat->Prop) (wo:World) (wR:Held Low w₀ Oo wo) (V:Value) (jo:List Frame)
  {c0 c1 blk tl:Code} {id:Nat} {ops:Array Oper} (ax:Tryz.f9.body=some (.seq c0 (.seq c1 (.seq (.seq (.region id ops false) blk) (.seq tl .ret)))))
  (a6:∀(T:Act) (B:World) (v:Value) (cs:List Nat),T.defers=[]->ResultsC prog Tryz.f9 T.tmps v->cs.length=r.length->B.ownsRow Low 53 3 v (Xo f cs r).flatten.length (Qp (Xo f cs r).flatten)->Held Low w₀ (λ_=>False) B->
   Stop (G {(base 9).at T [.code .ret] with mode:=.returning} jo) B):
  okR prog Low Stop [] Oo wo (G ((base 9).at ⟨#[V,undef, .slice none 0 0, .slice none 0 0,undef,undef,undef,V, .slice aa r.length cap,undef,undef,undef,undef,undef,undef,undef,undef,undef,undef,undef,undef,undef,undef,undef,undef],[]⟩ [.inRegion ops [2,3,4], .code blk, .code (.seq tl .ret)]) jo):=by
 unfold Tryz.f9 at ax;dsimp only at ax;cases ax;have bv:=resultsC_tmp (P:=prog) (fn:=Tryz.f9) rfl;have aY:=hid a6;have a8:=hid bh;have aW:=hid aN;clear a6 bh aN;have oD:=λO w h=>A3y (Stop:=Stop) w₀ r f aa cap bf a2 bc hl O w h
 have y9:=hid oD;clear oD bf a2 bc;obtain⟨nv,a3⟩:∃nv,nv=Value.slice aa r.length cap:=⟨_,rfl⟩
 rw[<-a3] at y9 ⊢;clear a3;refine A2y (fn:=9) rfl yDg ?_
 (refine Gt (Bh _ _ _) rfl rrz rfl (y9 _ _ wR) yBc ?_;rintro H _ O1 W1 ⟨cs,ae,rfl,A,E,M⟩;try walk_nrm)
 clear y9;obtain⟨aT,bj,ab⟩:=Aj A;rw[ab];refine kV ?_;rw[<-ab];clear ab aT bj;rw[Ao5];have bp:Hid (∀q∈Xo f cs r,∀x∈q,EOk w₀ 0 x.e):=by
  intro q bu x hx;obtain⟨i,hi,rfl⟩:=List.mem_iff_getElem.1 bu;simp only[Xo,List.getElem_zipWith] at hx;exact aW _ (A59 _) _ x hx
 have aV:(Xo f cs r).length=cs.length:=by simp[Xo,ae]
 have bB:=a8 cs ae;have y7:=hid (λT B v h1 h2 h3 h4=>aY T B v cs h1 h2 ae h3 h4);clear aY a8 aW;generalize Xo f cs r=bM at*;obtain⟨y,aU⟩:∃y,y=r.length:=⟨_,rfl⟩
 rw[<-aU] at A ae ⊢;have bD:y<=1000:=omz
 clear aU hl;refine Az4 (fn:=9) rfl yDg ?_;refine kV ?_;refine Xv (Bh _ _ _) (λn T x' W B=>∃(i:Nat) (u u5 u6 aS aO a5 bi aB jW jV pU ay ar av al:Value),i<=y/\n=y - i/\T=⟨#[V,undef, .slice none 0 0,u,undef,u5,u6,V,nv,H, .int .i64 y, .int .i64 i,aS,aO,a5,bi,aB,jW,jV,pU,ay,ar,av,al,undef],[]⟩/\LSt cs (bM.map (·.map MI.val)) i (((bM[i]?).getD []).map MI.val) x'/\B.ownsRow Low 53 3 u ((bM.take i).flatten).length (Qp ((bM.take i).flatten))/\(∀k,u.ownBlock=some k->W k/\H.ownBlock≠some k)/\B.ownsRow Low 57 1 H y (cs.map λc=>.chan (some c))/\(∀k,H.ownBlock=some k->W k)/\Held Low w₀ W B) y
  ⟨0, .slice none 0 0,undef,undef,undef,undef,undef,undef,undef,undef,undef,undef,undef,undef,undef,undef,A7l _,rfl,rfl,LSt.begin _ _ (by rw[A6i,aV]) _ (λai F=>?_),World.ownsRow_nil _ _ _ _,(λk d=>by cases d),A,E,M⟩ ?_
 ·rw[A8j] at F
  cases ag:bM[0]? with
  | none=>rw[ag] at F;cases F
  | some r0=>rw[ag] at F;cases F;rfl
 clear A E M O1 W1 wR;rintro n _ aC O w ⟨i,u,u5,u6,aS,aO,a5,bi,aB,jW,jV,pU,ay,ar,av,al,hi,rfl,rfl,l,D,Q,A,E,M⟩;by_cases bA:i<y
 ·have bz:(i:Int)<(y:Int):=by omega
  have aD:i<cs.length:=omz
  have uB:i<bM.length:=omz
  obtain⟨aT,bj,ab,_,aR⟩:=Q9 (Joins.ownsRow_le A (A7l _));obtain⟨b,bs,aK,ao⟩:=aR i (.chan (some cs[i])) (by rw[A8j,A6j aD];rfl);subst bs;clear aR;have Z:=A6j aD;have jq:=hid (take_snoc bM i uB);have ba:(bM[i]?).getD []=bM[i]:=by rw[A6j uB];rfl
  rw[ba] at l;have yx:=hid (bp _ (A59 uB));have gY:Hid ((bM.take i).flatten.length+bM[i].length<=1000000):=by
   show _<=_
   have h1:(bM.take (i+1)).flatten.length<=bM.flatten.length:=by
    have:bM.flatten=(bM.take (i+1)).flatten++(bM.drop (i+1)).flatten:=by rw[<-A8d,A8r]
    rw[this,A52];omega
   rw[jq.out,A8d,A52] at h1;simp only[A7f,A9f,A8w] at h1;omega
  have bo:Hid (∀ai,(bM.map (·.map MI.val))[i+1]?=some ai->ai=((bM[i+1]?).getD []).map MI.val):=by
   intro ai F;rw[A8j] at F;cases ag:bM[i+1]? with
   | none=>rw[ag] at F;cases F
   | some r0=>rw[ag] at F;cases F;rfl
  revert ao l Z jq yx gY
  generalize bM[i]=q;generalize cs[i]=c;intro l ao Z jq yx gY;have iG:=hid (λaf (hW:Keep Low O w af)=>(World.cell?_of_block (a:=⟨b,i,none⟩) (hW.mine _ (E b aK))).trans ao);have jb:=E b aK;have zZ:=hid ab;clear ao ba aD uB;rw[zZ.out];have _Y:=iG.out;refine kV ?_;clear _Y;rw[<-zZ.out];clear aK zZ jb ab iG;have a7:Hid (IntKind.i64.wrap ((i:Int)+1)=((i+1:Nat):Int)):=by show _=_;rw[IntKind.wrap_i64];omega
  refine Xv (Bh _ _ _) (λn T x' W B=>∃(k:Nat) (u v6 aG aA aF az aE aI aH:Value),k<=q.length/\n=q.length - k/\T=⟨#[V,undef, .slice none 0 0,u,undef, .chan (some c),v6,V,nv,H, .int .i64 y, .int .i64 i, .bool true, .pointer (some ⟨b,i,none⟩), .chan (some c), .chan (some c),aG,aA,aF,az,aE,aI,aH,al,undef],[]⟩/\LSt cs (bM.map (·.map MI.val)) i ((q.drop k).map MI.val) x'/\B.ownsRow Low 53 3 u ((bM.take i).flatten++q.take k).length (Qp ((bM.take i).flatten++q.take k))/\(∀k,u.ownBlock=some k->W k/\H.ownBlock≠some k)/\B.ownsRow Low 57 1 H y (cs.map λc=>.chan (some c))/\(∀k,H.ownBlock=some k->W k)/\Held Low w₀ W B) q.length
   ⟨0,u,u6,aB,jW,jV,pU,ay,ar,av,A7l _,rfl,rfl,by rw[A9b];exact l,by rw[List.take_zero,A8w];exact D,Q,A,E,M⟩ ?_
  clear l D Q A E M O w u aC;rintro n _ aC O w ⟨k,u,v6,aG,aA,aF,az,aE,aI,aH,d,rfl,rfl,l,D,Q,A,E,M⟩;have an:Hid (∀g:World,(execOp (Act.eval ⟨#[V,undef, .slice none 0 0,u,undef, .chan (some c),v6,V,nv,H, .int .i64 y, .int .i64 i, .bool true, .pointer (some ⟨b,i,none⟩), .chan (some c), .chan (some c),aG,aA,aF,az,aE,aI,aH,al,undef],[]⟩) {dst:=some 16,op:=.recv 57 (.tmp 15) true,type:=0,pos:= "l7_way.go:13",after:=#[],guard:=none}).run prog g=.ok (.comm #[rcase c (.agg #[.int .i64 0, .int .i64 0, .slice none 0 0])] true (.recv true)) g):=by
   intro g;go_simp;rfl
  by_cases aw:k<q.length
  ·have aL:=A7p aw
   have jQ:Hid ((bM.take i).flatten++q.take (k+1)=((bM.take i).flatten++q.take k)++[q[k]]):=by show _=_;rw[take_snoc q k aw,A6q]
   have ap:=yx _ (A59 aw);have sJ:Hid (((bM.take i).flatten++q.take k).length+1<=1000000):=by
    show _<=_
    have h1:=gY.out;rw[A52,A74];omega
   rw[aL] at l;clear aL
   revert l jQ ap
   generalize q[k]=m;intro l jQ ap;obtain⟨S,J,aZ⟩:=Aj ap;clear ap;obtain⟨L,N,R,xa⟩:=m;dsimp only at aZ;subst aZ;rw[A6k] at l;have ah:=l.2.2.1 c Z;repeat (first | (first | refine Jz (Bh _ _ _) ?_ | refine Ro (Bh _ _ _) ?_ | refine U2 (Bh _ _ _) ?_ | refine Rn (Bh _ _ _) ?_ | refine Y7 (Bh _ _ _) ?_ | refine U3 (Bh _ _ _) ?_ | refine Pm (Bh _ _ _) ?_) | (simp only[U4,Lj,if_true,A7k,reduceIte,Nat.reduceEqDiff]))
   (refine Fa (Bh _ _ _) ?_;simp only[A55,A53,A54,Nat.reduceAdd,A6b,List.range,List.range.loop])
   refine Akk (j:=i) (c:=c) (z:=.agg #[.int .i64 0, .int .i64 0, .slice none 0 0]) rfl rrz ah an (λg=>by simp[execOp]) ?_ (λh=>by cases h);intro v br a9;obtain⟨rfl,rfl⟩:=List.cons.inj a9;clear a9 ah an;replace l:=l.recv Z;simp only[MI.val];try walk_nrm
   refine kV ?_;have aJ:=Ext.refl Low O w;refine Md (Bh _ _ _) rfl rrz ?_ ?_
   ·intro _;simp[go_sem];done
   intro g hR K hK;go_simp;refine hK _ _ ?_;clear hK K;obtain⟨O2,eO,C,U,I,aj,X,ac⟩:=Al3 M hR #[.int .i64 0, .int .i64 0, .slice none 0 0] 53;rw[<-eO];clear eO
   revert C U I aj X ac
   generalize g.alloc (.cells #[.int .i64 0, .int .i64 0, .slice none 0 0] 53)=W2;generalize g.heap.size=b2;intro C U I aj X ac;replace C:=aJ.trans C;replace X :=λx hx=>X x (aJ.own x hx)
   clear hR g;try walk_nrm
   refine Xa (Bh _ _ _) b2 I rfl rrz ?_ ?_
   ·intro g hR e he
    have s:=(hR.mine _ I).trans ac;have y0:g.cell? ⟨b2,0,none⟩=some (.int .i64 0):=cell_of_heap s 0;have z0:=frozen_of_heap s 0;have y1:g.cell? ⟨b2,1,none⟩=some (.int .i64 0):=cell_of_heap s 1;have z1:=frozen_of_heap s 1;have y2:g.cell? ⟨b2,2,none⟩=some (.slice none 0 0):=cell_of_heap s 2;have z2:=frozen_of_heap s 2;clear s;simp[go_sem,events_store_slice,storedEv, *] at he
    (first | (subst he;exact⟨_,_,rfl, .inl I⟩) | (rcases he with rfl | rfl<;>exact⟨_,_,rfl, .inl I⟩) | (rcases he with rfl | rfl | rfl | rfl<;>exact⟨_,_,rfl, .inl I⟩) | (rcases he with rfl | rfl | rfl | rfl | rfl | rfl<;>exact⟨_,_,rfl, .inl I⟩))
   intro g hR K hK;have s:=(hR.mine _ I).trans ac;have y0:g.cell? ⟨b2,0,none⟩=some (.int .i64 0):=cell_of_heap s 0;have z0:=frozen_of_heap s 0;have y1:g.cell? ⟨b2,1,none⟩=some (.int .i64 0):=cell_of_heap s 1;have z1:=frozen_of_heap s 1;have y2:g.cell? ⟨b2,2,none⟩=some (.slice none 0 0):=cell_of_heap s 2;have z2:=frozen_of_heap s 2;clear s;go_simp;try (unfold stored;go_simp)
   have s:=(hR.mine _ I).trans ac;have hp:Put b2 g (((g.setCell ⟨b2,0,none⟩ (.int .i64 L)).setCell ⟨b2,1,none⟩ (.int .i64 N)).setCell ⟨b2,2,none⟩ (.slice S R.length J)):=((((Put.refl _ _).set 0 (.int .i64 L)).set 1 (.int .i64 N)).set 2 (.slice S R.length J))
   have ak:(((g.setCell ⟨b2,0,none⟩ (.int .i64 L)).setCell ⟨b2,1,none⟩ (.int .i64 N)).setCell ⟨b2,2,none⟩ (.slice S R.length J)).heap[b2]?=some (.cells #[.int .i64 L, .int .i64 N, .slice S R.length J] 53):=(heap_setCell (heap_setCell (heap_setCell s 0 (.int .i64 L)) 1 (.int .i64 N)) 2 (.slice S R.length J))
   refine hK _ _ hp ?_;clear hK K s y0 z0 y1 z1 y2 z2 ac;replace C:=(C.rely hR).put hp aj X;replace U:=(U.rely hR).put hp aj
   revert C U ak
   clear hp hR;generalize (((g.setCell ⟨b2,0,none⟩ (.int .i64 L)).setCell ⟨b2,1,none⟩ (.int .i64 N)).setCell ⟨b2,2,none⟩ (.slice S R.length J))=W2;intro ak C U;have bq:Hid (∀af,Keep Low O2 W2 af->∀ii,af.cell? ⟨b2,ii,none⟩=(#[.int .i64 L, .int .i64 N, .slice S R.length J]:Array Value)[ii]?):=λaf hW ii=>(hW.ext.cell (.inl I) ii).trans (cell_of_heap ak ii)
   clear ak;try walk_nrm
   replace D:=C.row D (λk d=>.inl (Q k d).1);replace A:=C.row A (λk d=>.inl (E k d));have jy:Hid (some b2≠u.ownBlock):=λe=>X b2 (Q b2 e.symm).1 rfl
   have jO:∀k,u.ownBlock=some k->O2 k/\H.ownBlock≠some k:=λk d=>⟨C.own _ (Q k d).1,(Q k d).2⟩
   have nT:=λk d=>C.own _ (E k d)
   clear aJ M Q E C X O w;have _Y:=cs3 bq;refine kV ?_;clear _Y;refine Md (Bh _ _ _) rfl rrz ?_ ?_
   ·intro W1;simp[go_sem];done
   intro g hR K hK;go_simp;refine hK _ _ ?_;clear hK K;obtain⟨O4,eO,Y,lZ,au,aQ,qU,qW⟩:=Ayp U hR (.cells #[.int .i64 L, .int .i64 N, .slice S R.length J] 53);rw[<-eO];clear eO
   revert Y lZ au aQ qU qW
   generalize g.alloc (.cells #[.int .i64 L, .int .i64 N, .slice S R.length J] 53)=W4;generalize g.heap.size=b4;intro Y lZ au aQ qU qW;clear hR g;try walk_nrm
   replace D:=Y.row D (λk d=>.inl (jO k d).1);replace A:=Y.row A (λk d=>.inl (nT k d));have rZ:=λk d=>Y.own _ (jO k d).1
   have lJ:=λk d=>Y.own _ (nT k d)
   obtain⟨i0,aM,aX,aP,bb⟩:=info_parts Ael;refine Ad5 (Bh _ _ _) rfl rrz (.tmp 19) (.tmp 21) 26 rfl 53 i0 (.agg #[.int .i64 0, .int .i64 0, .slice none 0 0]) 3 40 underlying26 aM aX aP bb rfl dcz u _ _ yBc D rZ b4 1 [.int .i64 L, .int .i64 N, .slice S R.length J] yBc rfl au ?_ ?_ ?_ ?_ lZ ?_
   ·intro jj bn hu
    rw[cell_of_heap qW];simpa using hu
   ·intro bn hu
    simp only[A6n,A68,A7u] at hu;rcases hu with rfl | rfl | rfl<;>rfl
   ·have:=sJ.out;simp only[maxLen];omega
   ·have:=sJ.out;omega
   clear aM aX aP bb i0;intro v5 W5 O5 bk qM zF uN bg lY;try walk_nrm
   have uz:=S9 A λk d=>bg k (lJ k d) λe=>(jO k e.symm).2 d
   have zB:=λk d=>uN k (lJ k d)
   have zI:∀k,v5.ownBlock=some k->O5 k/\H.ownBlock≠some k:=λk d=>⟨qM k d,λe=>by
    rcases zF k d with h | h
    ·exact(jO k h.symm).2 e
    ·exact h (lJ k e)⟩
   clear D A rZ lJ jO nT bg uN qM zF lZ U qW Y qU;refine kV ?_;refine⟨q.length - (k+1),omz,k+1,v5,_,_,_,_,_,_,_,_,omz,rfl,rfl,l,?_,zI,uz,zB,lY⟩;rw[jQ.out,Aku,A52];exact bk
  ·obtain rfl:k=q.length:=by omega
   rw[List.drop_length,A66] at l;rw[A73] at D;have ah:=l.2.2.1 c Z;repeat (first | (first | refine Jz (Bh _ _ _) ?_ | refine Ro (Bh _ _ _) ?_ | refine U2 (Bh _ _ _) ?_ | refine Rn (Bh _ _ _) ?_ | refine Y7 (Bh _ _ _) ?_ | refine U3 (Bh _ _ _) ?_ | refine Pm (Bh _ _ _) ?_) | (simp only[U4,Lj,if_true,A7k,reduceIte,Nat.reduceEqDiff]))
   (refine Fa (Bh _ _ _) ?_;simp only[A55,A53,A54,Nat.reduceAdd,A6b,List.range,List.range.loop])
   refine Akk (j:=i) (c:=c) (z:=.agg #[.int .i64 0, .int .i64 0, .slice none 0 0]) rfl rrz ah an (λg=>by simp[execOp]) (λv br h=>by cases h) ?_;intro _;clear ah an;replace l:=l.done Z (by rw[A6i,aV]) _ bo.out;try walk_nrm
   have bC:=a7.out;clear a7;refine kV ?_;refine⟨y - (i+1),omz,i+1,u,_,_,_,_,_,_,_,_,_,_,_,_,_,_,omz,rfl,rfl,l,?_,Q,A,E,M⟩;rw[jq.out,A8d];simp only[A7f,A9f,A8w];exact D
 ·have bw:¬(i:Int)<(y:Int):=by omega
  obtain rfl:i=y:=omz
  have bm:∀e∈aC,e.2.2=true:=λe he=>by
   obtain⟨t,ht⟩:=List.mem_iff_getElem?.1 he;exact l.1 t (by have:=(List.getElem?_eq_some_iff.1 ht).1;rw[l.2.1,ae] at this;exact this) e ht
  rw[A6x omz] at D;refine kV ?_;refine Ad6 (Bh _ _ _) (fn:=9) rfl yDg ?_;refine kV ?_;refine(Bh _ _ _).ctl rfl (g':=_) ?_ (λ_=>stepG_ret') ?_
  ·rfl
  refine Az2 rfl bm λg hK=>y7 _ g u rfl (bv _) ?_ ?_
  ·exact hK.ext.row D λk d=>.inl (Q k d).1
  ·have:=M.rely hK
   exact⟨this.still,this.low,λ_ h=>h.elim,this.os,this.out⟩
end Go.Proofs.YtnpfcnolmkanfaaGreatDoor
