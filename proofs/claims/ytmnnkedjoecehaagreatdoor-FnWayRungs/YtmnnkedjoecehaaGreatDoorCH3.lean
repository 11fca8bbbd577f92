import Derived.Test.YtmnnkedjoecehaaGreatDoorCG7
set_option maxRecDepth 100000
set_option maxHeartbeats 8000000
namespace Go.Co
open Stil Go.Conc
section
variable {cs:List Frame}{k:List Item}{ops:Array Oper}
variable {τ:Type}{P:Program}{main:Bool}{Low:Nat}{pre:τ -> World -> Prop}{ok:τ -> (Nat -> Prop) -> World -> Goroutine -> Prop}{fn:FuncId}{a:Act}{x:τ}{O:Nat -> Prop}{w:World}
theorem KX (T:OkL P main Low pre ok){b:Frame}{c d:Code}(m:b.fn=fn)(n:b.kind≠.early)
  (h:WpK ok fn c (Xb (λg f l j=>ok f l j (G (b.at g (.code d::k)) cs)) (λ_ _ _ _ _=>False)) a x O w):ok x O w (G (b.at a (.code (.seq c d)::k)) cs):=by
 refine T.ctl rfl rfl (λ_=>stepG_seq) (h b (.code d::k) cs m n λe g f l j q=>?_);cases e with
 | normal=>exact q
 | _=>exact q.elim
theorem zH (T:OkL P main Low pre ok){b:Frame}{d:Nat}(h:ok x O w (G (b.at a (.inRegion ops (List.range ops.size)::k)) cs)):ok x O w (G (b.at a (.code (.region d ops false)::k)) cs):=
 T.ctl rfl rfl (λ_=>stepG_region) h
theorem iZ (T:OkL P main Low pre ok){b:Frame}{i:Nat}{rest:List Nat}{o:Oper}{v:Value}(g:ops[i]?=some o)(e:Region.wanted o (yielded ops a.tmps)=true)(f:b.kind≠.early)
  (hr:∀d:World,(execOp a.eval o).run P d=.ok (.value v) d) (he:∀d:World,(execOp a.eval o).events P d #[]=#[]) (h:ok x O w (G (b.at (a.put o.dst v) (.inRegion ops rest::k)) cs)):ok x O w (G (b.at a (.inRegion ops (i::rest)::k)) cs):=by
 refine T.ctl rfl rfl (λd=>?_) h;rw[stepG_value g e f (hr d)];unfold listed;rw[he,seen_none]
end
end Go.Co
namespace Go.Proofs.YtmnnkedjoecehaaGreatDoor
open Tryz Stil Go.RowKit Go.Sort Go.BigFrame Go.Conc Go.Co
variable {Low c:Nat}
theorem me (w₀:World)(m:Bz)(hg:GZ m.arm)(F:FY m.net.net)(N:Ai m.net.net<=1000000)(d:VOk Low w₀ m):∃J,MIs w₀ m.vals J (Ea m.arm)/\∀w O,Held Low w₀ O w->
  okS prog Low c (J.map MI.val) O w (born prog (dcall 61 #[.chan (some c), .agg #[AB m.net.kind,AB m.net.op,m.net.av,m.net.kv,m.cv,m.kv]])):=by
 obtain⟨I,h1,r⟩:=SA (c:=c) w₀ m.net F N d.net;obtain⟨M,h2,E⟩:=mZ (c:=c) w₀ m hg d;refine⟨I++(M++[mi0 11]),?_,λw O hF=>?_⟩
 ·unfold Ea
  rw[Tz,show m.arm.net=m.net.net by rw[Bz.arm_eq]];exact h1.append (h2.snoc 11)
 obtain⟨C,D,X⟩:=d.net.devs;obtain⟨A,q,Z,_⟩:=d.net.kids;obtain⟨L,U,Y,_⟩:=d.coils;obtain⟨S,rd,R,_⟩:=d.kids;clear h1 h2 d hg F N;obtain⟨⟨y,no,s,na,nv,B⟩,cv,cs,kv,V⟩:=m;dsimp only at X Z Y R r E ⊢;subst X Z Y R;rw[CU,CU,CQ,C6,MI.val,mi0];refine iR func61 Ab rfl ?_;have HB:Hid (∀rest O w,Held Low w₀ O w->Nq prog (okS prog Low c) 98 #[.chan (some c), .agg #[AB y,AB no,AE C s.length D,AE A B.length q]] (I.map MI.val++rest) O w λ_ u j g=>u=rest/\C2 Low O j w g/\Held Low w₀ j g):=r;have HT:Hid (∀rest O w,Held Low w₀ O w->Nq prog (okS prog Low c) 99 #[.chan (some c), .agg #[AB y,AB no,AE C s.length D,AE A B.length q,AE L cs.length U,AE S V.length rd]] (M.map MI.val++rest) O w λ_ u j g=>u=rest/\C2 Low O j w g/\Held Low w₀ j g):=E;clear r E;simp only[ntmps61,Cd,CH,CP,Nat.reduceAdd,Nat.reduceSub,DK,DL,DJ,DN,C5,C4];refine KX (Ba _ _ _) (fn:=61) rfl yFa ?_
 (refine Gh (Ba _ _ _) ?_;simp only[Cd,CH,CP,CV,List.range,List.range.loop])
 refine kB hF #[AB y,AB no,AE C s.length D,AE A B.length q,AE L cs.length U,AE S V.length rd] 62 λO1 W1 b1 af ab n ac l=>?_
 try walk_nrm
 refine Qy (Ba _ _ _) ?_;simp only[Xb];refine KX (Ba _ _ _) (fn:=61) rfl yFa ?_;have _Y:=cs6 l;refine kW ?_;clear _Y
 (refine Hg (Ba _ _ _) rfl Ab rfl (HB _ _ _ ab) BM ?_;rintro _ _ O2 W2 ⟨rfl,H,aa⟩;try walk_nrm)
 replace l:=Hi l H n;replace n:=H.own _ n;refine Qy (Ba _ _ _) ?_;simp only[Xb];refine KX (Ba _ _ _) (fn:=61) rfl yFa ?_;have _Y:=cs6 l;refine kW ?_;clear _Y
 (refine Hg (Ba _ _ _) rfl Ab rfl (HT _ _ _ aa) BM ?_;rintro _ _ O3 W3 ⟨rfl,jA,ae⟩;try walk_nrm)
 refine Qy (Ba _ _ _) ?_;simp only[Xb];refine KX (Ba _ _ _) (fn:=61) rfl yFa ?_;refine kW ?_;refine zH (Ba _ _ _) ?_;simp only[Cd,CH,CP,Nat.reduceAdd,CV,List.range,List.range.loop];refine iZ (Ba _ _ _) rfl Ab yFa (v:=.chan (some c)) (λ_=>by go_simp) (λ_=>by simp[go_sem]) ?_;refine Ay2 rfl Ab yFa rfl (by simp[Act.eval,Act.put]) AX ?_ (Aym func61 rfl rfl)
 ·rfl
variable {Low:Nat}{Stop:Goroutine -> World -> Prop}
def S3 (Low:Nat)(w₀:World)(m:Bz)(f:Nat->List MI):Prop:=∀c w O,Held Low w₀ O w->
 okS prog Low c ((f c).map MI.val) O w (born prog (dcall 61 #[.chan (some c), .agg #[AB m.net.kind,AB m.net.op,m.net.av,m.net.kv,m.cv,m.kv]]))
theorem take_snoc {α:Type}(l:List α)(j:Nat)(h:j<l.length):l.take (j+1)=l.take j++[l[j]]:=by rw[List.take_add_one,DW h];rfl
theorem Azp:(prog.info? 67).map (λi=>(i.zero,i.size,i.bytes))=some (some (.chan none),1,8):=AX
theorem nA (w:World):Sem.run prog (Instr.makeChan 67 (AB 0)) w=.ok (.chan (some w.heap.size)) (w.alloc (.chan 0 #[] false 0 0 false)):=by
 obtain⟨e,hi,f,d,g⟩:=info_parts LN;exact run_makeChan underlying67 hi .i64 0 AQ AQ
theorem fe (w:World):Sem.events prog (Instr.makeChan 67 (AB 0)) w #[]=#[]:=by
 obtain⟨e,hi,f,d,g⟩:=info_parts LN;exact events_makeChan underlying67 hi .i64 0 AQ AQ _
theorem mC (w₀:World)(d:List Bz)(f:Bz->Nat->List MI)(a:Option Addr)(cap:Nat)(ar:∀i (h:i<d.length),∃b o,a=some (AK b o)/\b<Low/\Gk w₀ b (o+i*6) d[i])(aI:∀m∈d,VOk Low w₀ m)(ax:∀m∈d,S3 Low w₀ m (f m))(hl:d.length<=1000)(Oo:Nat->Prop)(wo:World)(zK:Held Low w₀ Oo wo):
  Nq prog (okR prog Low Stop) 31 #[AE a d.length cap] [] Oo wo λv x' O' w'=>∃cs:List Nat,cs.length=d.length/\x'=List.zipWith (λc m=>(c,(f m c).map MI.val,false)) cs d/\
   w'.ownsRow Low 67 1 v d.length (cs.map λc=>.chan (some c))/\(∀k,v.ownBlock=some k->O' k)/\Held Low w₀ O' w':=by
 have aS:=resultsC_tmp (P:=prog) (fn:=Tryz.f31) rfl;have aV:=AV aI;have aP:=AV ax;have aT:=AV ar;clear aI ax ar;refine Io func31 Ab rfl ?_;simp only[ntmps31,Cd,CH,CP,Nat.reduceAdd,Nat.reduceSub,DK,DL,DJ,DN,C5,C4];refine kV ?_
 refine Zg (Be _ _ _) (λn a' x' O' w'=>∃(j:Nat) (cs:List Nat) (Z u5 u6 aD az aK av aH aA aJ lH lG sF aG:Value),j<=d.length/\n=d.length - j/\a'=⟨#[AE a d.length cap,undef,AG,Z,undef,u5,u6,AE a d.length cap,AB d.length,AB j,aD,az,aK,av,aH,aA,aJ,lH,lG,sF,aG,undef],[]⟩/\
  cs.length=j/\x'=List.zipWith (λc m=>(c,(f m c).map MI.val,false)) cs (d.take j)/\w'.ownsRow Low 67 1 Z j (cs.map λc=>.chan (some c))/\(∀k,Z.ownBlock=some k->O' k)/\Held Low w₀ O' w') d.length
  ⟨0,[],AG,undef,undef,undef,undef,undef,undef,undef,undef,undef,undef,undef,undef,undef,DZ _,rfl,rfl,rfl,rfl,World.ownsRow_nil _ _ _ _,(λk l=>by cases l),zK⟩ ?_
 rintro n _ _ O w ⟨j,cs,Z,u5,u6,aD,az,aK,av,aH,aA,aJ,lH,lG,sF,aG,hj,rfl,rfl,aj,rfl,hS,jy,ai⟩;try dsimp only
 by_cases ak:j<d.length
 ·have aW:(j:Int)<(d.length:Int):=by omega
  obtain⟨b,o,rfl,hb,hc⟩:=aT j ak;have hm:=CJ ak;have X:=aV _ hm;have ab:=aP _ hm;have kT:=AV (take_snoc d j ak);have xq:Hid ((d.take j).length=j):=by show _=_;rw[FP];omega
  revert hc X ab kT
  generalize d[j]=x;intro hc X ab kT;obtain⟨fx,al⟩:=AA (f x)
  have yj:=AV al;rw[<-al] at ab;clear al;obtain⟨y,H,aC⟩:=X.net.devs;obtain⟨u,J,aO,_⟩:=X.net.kids;obtain⟨F,C,pF,_⟩:=X.coils;obtain⟨Q,M,aw,_⟩:=X.kids;clear X;obtain⟨⟨L,A,D,xa,y8,B⟩,aX,N,a2,E⟩:=x;dsimp only at aC aO pF aw;subst aC aO pF aw;have jC:=AV (λW (hW:Keep Low O w W)=>hc.held (ai.rely hW) hb);have aQ:Hid (∀c w O,Held Low w₀ O w->okS prog Low c ((fx c).map MI.val) O w (born prog (dcall 61 #[.chan (some c), .agg #[AB L,AB A,AE y D.length H,AE u B.length J,AE F N.length C,AE Q E.length M]]))):=ab;clear hc hm ab;have an:=C2.refl Low O w;have _Y:=jC.out;simp only[Gk,Yi] at _Y;refine kV ?_;clear _Y;refine Og (Be _ _ _) rfl Ab ?_ ?_
  ·intro _;simp[go_sem];done
  intro w₁ hR K hK;go_simp;refine hK _ _ ?_;clear hK K;obtain⟨O2,S,q,U,hO2,ah,Y,hH2⟩:=K2 ai hR #[AB 0,AB 0,AG,AG,AG,AG] 62;rw[<-S];clear S
  revert q U hO2 ah Y hH2
  generalize w₁.alloc (.cells #[AB 0,AB 0,AG,AG,AG,AG] 62)=W2;generalize w₁.heap.size=b2;intro q U hO2 ah Y hH2;replace q:=an.trans q;replace Y :=λx hx=>Y x (an.own x hx)
  clear hR w₁;try walk_nrm
  refine Yt (Be _ _ _) b2 hO2 rfl Ab ?_ ?_
  ·exact zm
  intro w₁ hR K hK;have hh:=(hR.mine _ hO2).trans hH2;have y0:w₁.cell? (AK b2 0)=some (AB 0):=cell_of_heap hh 0;have z0:=frozen_of_heap hh 0;have y1:w₁.cell? (AK b2 1)=some (AB 0):=cell_of_heap hh 1;have z1:=frozen_of_heap hh 1;have y2:w₁.cell? (AK b2 2)=some AG:=cell_of_heap hh 2;have z2:=frozen_of_heap hh 2;have y3:w₁.cell? (AK b2 3)=some AG:=cell_of_heap hh 3;have z3:=frozen_of_heap hh 3;have y4:w₁.cell? (AK b2 4)=some AG:=cell_of_heap hh 4;have z4:=frozen_of_heap hh 4;have y5:w₁.cell? (AK b2 5)=some AG:=cell_of_heap hh 5;have z5:=frozen_of_heap hh 5;clear hh;go_simp;try (unfold stored;go_simp)
  have hh:=(hR.mine _ hO2).trans hH2;have hp:EL b2 w₁ ((((((w₁.setCell (AK b2 0) (AB L)).setCell (AK b2 1) (AB A)).setCell (AK b2 2) (AE y D.length H)).setCell (AK b2 3) (AE u B.length J)).setCell (AK b2 4) (AE F N.length C)).setCell (AK b2 5) (AE Q E.length M)):=(((((((EL.refl _ _).set 0 (AB L)).set 1 (AB A)).set 2 (AE y D.length H)).set 3 (AE u B.length J)).set 4 (AE F N.length C)).set 5 (AE Q E.length M))
  have ac:((((((w₁.setCell (AK b2 0) (AB L)).setCell (AK b2 1) (AB A)).setCell (AK b2 2) (AE y D.length H)).setCell (AK b2 3) (AE u B.length J)).setCell (AK b2 4) (AE F N.length C)).setCell (AK b2 5) (AE Q E.length M)).heap[b2]?=some (.cells #[AB L,AB A,AE y D.length H,AE u B.length J,AE F N.length C,AE Q E.length M] 62):=(heap_setCell (heap_setCell (heap_setCell (heap_setCell (heap_setCell (heap_setCell hh 0 (AB L)) 1 (AB A)) 2 (AE y D.length H)) 3 (AE u B.length J)) 4 (AE F N.length C)) 5 (AE Q E.length M))
  refine hK _ _ hp ?_;clear hK K hh y0 z0 y1 z1 y2 z2 y3 z3 y4 z4 y5 z5 hH2;replace q:=(q.rely hR).put hp ah Y;replace U:=(U.rely hR).put hp ah
  revert q U ac
  clear hp hR;generalize ((((((w₁.setCell (AK b2 0) (AB L)).setCell (AK b2 1) (AB A)).setCell (AK b2 2) (AE y D.length H)).setCell (AK b2 3) (AE u B.length J)).setCell (AK b2 4) (AE F N.length C)).setCell (AK b2 5) (AE Q E.length M))=W2;intro ac q U;have T:Hid (∀W,Keep Low O2 W2 W->∀r,W.cell? (AK b2 r)=(#[AB L,AB A,AE y D.length H,AE u B.length J,AE F N.length C,AE Q E.length M]:Array Value)[r]?):=λW hW r=>(hW.ext.cell (.inl hO2) r).trans (cell_of_heap ac r)
  clear ac;try walk_nrm
  have vg:IntKind.i64.wrap ((j:Int)+1)=((j+1:Nat):Int):=by rw[IntKind.wrap_i64];omega
  replace hS:=q.row hS (λk l=>.inl (jy k l));have aL:Hid (some b2≠Z.ownBlock):=λe=>Y b2 (jy b2 e.symm) rfl
  have tV:=λk l=>q.own _ (jy k l)
  clear an ai hb jC jy q Y;repeat (first | (first | refine Lh (Be _ _ _) ?_ | refine Ul (Be _ _ _) ?_ | refine W9 (Be _ _ _) ?_ | refine Uk (Be _ _ _) ?_ | refine I0 (Be _ _ _) ?_ | refine Xa (Be _ _ _) ?_ | refine Qy (Be _ _ _) ?_) | (simp only[Xb,Nv,if_true,DC,reduceIte,Nat.reduceEqDiff]))
  (refine Gh (Be _ _ _) ?_;simp only[Cd,CH,CP,Nat.reduceAdd,CV,List.range,List.range.loop])
  refine Og (Be _ _ _) rfl Ab ?_ ?_
  ·intro W1;simp[go_sem,fe];done
  intro w₁ hR K hK;have aU:=nA w₁;go_simp;refine hK _ _ ?_;clear hK K aU;obtain⟨O3,S,V,ag,R,au,ae,aa⟩:=NF U hR (.chan 0 #[] false 0 0 false);rw[<-S];clear S
  revert V ag R au ae aa
  generalize w₁.alloc (.chan 0 #[] false 0 0 false)=W3;generalize w₁.heap.size=b3;intro V ag R au ae aa;clear hR w₁;try walk_nrm
  replace T:=Hi T V hO2;replace hO2:=V.own _ hO2;replace hS:=V.row hS (λk l=>.inl (tV k l));have vV:Hid (some b3≠Z.ownBlock):=λe=>ae b3 (tV b3 e.symm) rfl
  have xN:=λk l=>V.own _ (tV k l)
  clear tV V ae U
  (refine Qg (Be _ _ _) rfl Ab ?_ ?_;(focus (intro _;first | (simp[go_sem];done) | (simp[go_sem, *];done)));intro _ K hK;go_simp;refine hK _ ?_;clear hK K;try walk_nrm)
  repeat (first | (first | refine Lh (Be _ _ _) ?_ | refine Ul (Be _ _ _) ?_ | refine W9 (Be _ _ _) ?_ | refine Uk (Be _ _ _) ?_ | refine I0 (Be _ _ _) ?_ | refine Xa (Be _ _ _) ?_ | refine Qy (Be _ _ _) ?_) | (simp only[Xb,Nv,if_true,DC,reduceIte,Nat.reduceEqDiff]))
  (refine Gh (Be _ _ _) ?_;simp only[Cd,CH,CP,Nat.reduceAdd,CV,List.range,List.range.loop])
  (refine Qg (Be _ _ _) rfl Ab ?_ ?_;(focus (intro _;first | (simp[go_sem];done) | (simp[go_sem, *];done)));intro _ K hK;go_simp;refine hK _ ?_;clear hK K;try walk_nrm)
  (refine Qg (Be _ _ _) rfl Ab ?_ ?_;(focus (intro _;first | (simp[go_sem];done) | (simp[go_sem, *];done)));intro _ K hK;go_simp;refine hK _ ?_;clear hK K;try walk_nrm)
  refine Og (Be _ _ _) rfl Ab ?_ ?_
  ·intro W1;simp[go_sem];done
  intro w₁ hR K hK;go_simp;refine hK _ _ ?_;clear hK K;obtain⟨O4,S,I,oD,af,ap,tZ,uC⟩:=NF ag hR (.cells #[.chan (some b3)] 67);rw[<-S];clear S
  revert I oD af ap tZ uC
  generalize w₁.alloc (.cells #[.chan (some b3)] 67)=W4;generalize w₁.heap.size=b4;intro I oD af ap tZ uC;clear hR w₁;try walk_nrm
  replace T:=Hi T I hO2;replace hO2:=I.own _ hO2;replace hS:=I.row hS (λk l=>.inl (xN k l));have jw:=λk l=>I.own _ (xN k l)
  replace aa:=(I.mine _ R).trans aa;replace R:=I.own _ R;clear xN I tZ ag;obtain⟨i0,hi,aM,ay,aB⟩:=info_parts Azp;refine UZ (Be _ _ _) rfl Ab (.tmp 14) (.tmp 16) 65 rfl 67 i0 (.chan none) 1 8 underlying65 hi aM ay aB rfl AY Z j _ BM hS jw b4 1 [.chan (some b3)] BM rfl af ?_ ?_ ?_ ?_ oD ?_
  ·intro jj aR hu
   rw[cell_of_heap uC];simpa using hu
  ·intro aR hu
   rw[List.mem_singleton.1 hu];rfl
  ·simp only[maxLen];omega
  ·omega
  clear hi aM ay aB i0;intro v5 W5 O5 aE tN _ xO ao s;try walk_nrm
  have aN:Hid (∀W,Keep Low O5 W5 W->∀r,W.cell? (AK b2 r)=(#[AB L,AB A,AE y D.length H,AE u B.length J,AE F N.length C,AE Q E.length M]:Array Value)[r]?):=λW hW r=>(World.cell?_of_block (a:=(AK b2 r)) ((hW.mine _ (xO _ hO2)).trans (ao _ hO2 aL.out))).trans (T _ (Keep.refl _ _ _) r)
  have aF:=(ao _ R vV.out).trans aa;replace R:=xO _ R;replace hO2:=xO _ hO2;clear T ao xO jw hS oD aa uC af aL vV;have T:=aN;clear aN
  (refine Qg (Be _ _ _) rfl Ab ?_ ?_;(focus (intro _;first | (simp[go_sem];done) | (simp[go_sem, *];done)));intro _ K hK;go_simp;refine hK _ ?_;clear hK K;try walk_nrm)
  repeat (first | (first | refine Lh (Be _ _ _) ?_ | refine Ul (Be _ _ _) ?_ | refine W9 (Be _ _ _) ?_ | refine Uk (Be _ _ _) ?_ | refine I0 (Be _ _ _) ?_ | refine Xa (Be _ _ _) ?_ | refine Qy (Be _ _ _) ?_) | (simp only[Xb]))
  (refine Gh (Be _ _ _) ?_;simp only[Cd,CH,CP,Nat.reduceAdd,CV,List.range,List.range.loop])
  have _Y:=cs6 T;refine kV ?_;clear _Y;refine kq (c:=b3) (vs:=(fx b3).map MI.val) rfl Ab ?_ ?_ R ⟨_,_,aF⟩ (aQ b3 _ _ ⟨s.still,s.low,λ_ h=>h.elim,s.os,s.out⟩) ?_
  ·intro W1
   go_simp;rfl
  ·intro W1
   simp[go_sem]
  try walk_nrm
  refine kV ?_;refine⟨d.length - (j+1),AQ,j+1,cs++[b3],v5,_,_,_,_,_,_,_,_,_,_,_,_,_,AQ,rfl,rfl,by rw[CO,aj];rfl,?_,?_,λk l=>⟨tN k l,λe=>?_⟩,⟨s.still,s.low,λk l=>s.up k l.1,s.os,s.out⟩⟩
  ·rw[kT.out,List.zipWith_append (by rw[xq.out,aj]),yj.out]
   rfl
  ·rw[CU]
   exact aE
  ·subst e
   rcases aE.2 with⟨hv,_⟩ | ⟨g,aZ,cur,hv,_,hg,_⟩
   ·rw[hv] at l;cases l
   ·rw[hv] at l
    cases l;rw[aF] at hg;cases hg
 ·have aY:¬(j:Int)<(d.length:Int):=by omega
  obtain rfl:j=d.length:=AQ
  refine kV ?_;refine⟨rfl,_,aS _,cs,aj,by rw[IV],hS,jy,ai⟩
end Go.Proofs.YtmnnkedjoecehaaGreatDoor
namespace Go.Co
open Go.Conc
section
variable {τ:Type}{P:Program}{main:Bool}{Low:Nat}{pre:τ -> World -> Prop}{ok:τ -> (Nat -> Prop) -> World -> Goroutine -> Prop}{fn:FuncId}{a:Act}{x:τ}{O:Nat -> Prop}{w:World}{b:Frame}{k:List Item}{cs:List Frame}
theorem kr {ops:Array Oper}{todo:List Nat}(l:b.fn=fn)(m:b.kind≠.early)(h:Vw ok fn ops todo (Xb (λf d j g=>ok d j g (G (b.at f k) cs)) (λ_ _ _ _ _=>False)) a x O w):ok x O w (G (b.at a (.inRegion ops todo::k)) cs):=by
 refine h b k cs l m λe f d j g q=>?_
 cases e with
 | normal=>exact q
 | _=>exact q.elim
theorem ig {c:Code}(l:b.fn=fn)(m:b.kind≠.early)(h:WpK ok fn c (Xb (λf d j g=>ok d j g (G (b.at f k) cs)) (λ_ _ _ _ _=>False)) a x O w):ok x O w (G (b.at a (.code c::k)) cs):=by
 refine h b k cs l m λe f d j g q=>?_
 cases e with
 | normal=>exact q
 | _=>exact q.elim
end
variable {c i:Nat}{cs:List Nat}
def LSt (cs:List Nat)(f:List (List Value))(i:Nat)(g:List Value)(L:List (Nat × List Value × Bool)):Prop:=
 (∀t,t<i->∀e,L[t]?=some e->e.2.2=true)/\L.length=cs.length/\(∀c,cs[i]?=some c->L[i]?=some (c,g,false))/\∀t c d,i<t->cs[t]?=some c->f[t]?=some d->L[t]?=some (c,d,false)
theorem LSt.begin (cs:List Nat)(d:List (List Value))(hl:d.length=cs.length)(h:List Value)(hr:∀r,d[0]?=some r->r=h):LSt cs d 0 h (List.zipWith (λc f=>(c,f,false)) cs d):=by
 refine⟨λt l=>by omega,by simp[hl],λc e=>?_,λt c f _ e j=>?_⟩
 ·rw[List.getElem?_zipWith,e]
  have g:0<d.length:=by have:=(List.getElem?_eq_some_iff.1 e).1;omega
  rw[DW g];simp only;rw[hr _ (DW g)]
 ·rw[List.getElem?_zipWith,e,j]
theorem LSt.recv {j:List (List Value)}{v:Value}{g:List Value}{L:List (Nat × List Value × Bool)}(h:LSt cs j i (v::g) L)(l:cs[i]?=some c):LSt cs j i g (L.set i (c,g,false)):=by
 have hi:i<L.length:=by rw[h.2.1];exact(List.getElem?_eq_some_iff.1 l).1
 refine⟨λt f e n=>h.1 t f e ?_,by rw[JR];exact h.2.1,λm d=>?_,λt m q f d o=>?_⟩
 ·rw[CY AQ] at n;exact n
 ·rw[l] at d;cases d
  rw[Dm hi]
 ·rw[CY AQ];exact h.2.2.2 t m q f d o
theorem LSt.done {d:List (List Value)}{L:List (Nat × List Value × Bool)}(h:LSt cs d i [] L)(o:cs[i]?=some c)(hl:d.length=cs.length)(n:List Value)(hr:∀r,d[i+1]?=some r->r=n):LSt cs d (i+1) n (L.set i (c,[],true)):=by
 have hi:i<L.length:=by rw[h.2.1];exact(List.getElem?_eq_some_iff.1 o).1
 refine⟨λt u e g=>?_,by rw[JR];exact h.2.1,λl j=>?_,λt l q u j f=>?_⟩
 ·by_cases m:t=i
  ·subst m
   rw[Dm hi] at g;cases g;rfl
  ·rw[CY (λe=>m e.symm)] at g
   exact h.1 t AQ e g
 ·rw[CY AQ]
  have s:i+1<d.length:=by rw[hl];exact(List.getElem?_eq_some_iff.1 j).1
  have f:=DW s;have:=h.2.2.2 (i+1) l _ AQ j f
  rw[this,hr _ f]
 ·rw[CY AQ]
  exact h.2.2.2 t l q AQ j f
end Go.Co
namespace Go.Proofs.YtmnnkedjoecehaaGreatDoor
open Tryz Go.RowKit Go.Sort Go.BigFrame Go.Conc Go.Co
variable {Low:Nat}{Stop:Goroutine -> World -> Prop}
def Za (f:Bz->Nat->List MI)(cs:List Nat)(d:List Bz):List (List MI):=List.zipWith (λc m=>f m c) cs d
theorem ZF (f:Bz->Nat->List MI):∀(cs:List Nat) (d:List Bz),List.zipWith (λc m=>(c,(f m c).map MI.val,false)) cs d=List.zipWith (λc e=>(c,e,false)) cs ((Za f cs d).map (·.map MI.val))
 | [],_=>by simp[Za]
 | c::cs,[]=>by simp[Za]
 | c::cs,m::d=>by
  have:=ZF f cs d
  simp only[Za,ez,CQ] at this ⊢;rw[this]
theorem mE (w₀:World)(q:List Bz)(f:Bz->Nat->List MI)(aa:Option Addr)(cap:Nat)(aP:∀i (h:i<q.length),∃b o,aa=some (AK b o)/\b<Low/\Gk w₀ b (o+i*6) q[i])(bf:∀m∈q,VOk Low w₀ m)(aT:∀m∈q,S3 Low w₀ m (f m))(hl:q.length<=1000)
  (a8:∀cs:List Nat,cs.length=q.length->(Za f cs q).flatten.length<=1000000) (aW:∀m∈q,∀c,∀x∈f m c,EOk w₀ 0 x.e) (Oo:Nat->Prop) (wo:World) (zK:Held Low w₀ Oo wo) (U:Value) (xg:List Frame)
  {c0 c1 blk tl:Code} {id:Nat} {ops:Array Oper} (ay:Tryz.f14.body=some (.seq c0 (.seq c1 (.seq (.seq (.region id ops false) blk) (.seq tl .ret)))))
  (aR:∀(T:Act) (D:World) (v:Value) (cs:List Nat),T.defers=[]->ResultsC prog Tryz.f14 T.tmps v->cs.length=q.length->D.ownsRow Low 48 3 v (Za f cs q).flatten.length (Gy (Za f cs q).flatten)->Held Low w₀ (λ_=>False) D->
   Stop (G {(base 14).at T [.code .ret] with mode:=.returning} xg) D):
  okR prog Low Stop [] Oo wo (G ((base 14).at ⟨#[U,undef,AG,AG,undef,undef,undef,U,AE aa q.length cap,undef,undef,undef,undef,undef,undef,undef,undef,undef,undef,undef,undef,undef,undef,undef,undef],[]⟩ [.inRegion ops [2,3,4], .code blk, .code (.seq tl .ret)]) xg):=by
 unfold Tryz.f14 at ay;dsimp only at ay;cases ay;have bs:=resultsC_tmp (P:=prog) (fn:=Tryz.f14) rfl;have aV:=AV aR;have a5:=AV a8;have a2:=AV aW;clear aR a8 aW;have qP:=λO w h=>mC (Stop:=Stop) w₀ q f aa cap aP bf aT hl O w h
 have av:=AV qP;clear qP aP bf aT;obtain⟨nv,aX⟩:=AA (AE aa q.length cap)
 rw[<-aX] at av ⊢;clear aX;refine kr (fn:=14) rfl B5 ?_
 (refine Hg (Be _ _ _) rfl Ab rfl (av _ _ zK) BM ?_;rintro I _ O1 W1 ⟨cs,ae,rfl,y,E,S⟩;try walk_nrm)
 clear av;obtain⟨bm,bk,Z⟩:=Af y;rw[Z];refine kV ?_;rw[<-Z];clear Z bm bk;rw[ZF];have uf:Hid (∀r∈Za f cs q,∀x∈r,EOk w₀ 0 x.e):=by
  intro r bo x hx;obtain⟨i,hi,rfl⟩:=List.mem_iff_getElem.1 bo;simp only[Za,List.getElem_zipWith] at hx;exact a2 _ (CJ _) _ x hx
 have aO:(Za f cs q).length=cs.length:=by simp[Za,ae]
 have bD:=a5 cs ae;have bu:=AV (λT D v h1 h2 h3 h4=>aV T D v cs h1 h2 ae h3 h4);clear aV a5 a2;generalize Za f cs q=bT at*;obtain⟨A,bh⟩:=AA q.length
 rw[<-bh] at y ae ⊢;have bC:A<=1000:=AQ
 clear bh hl;refine ig (fn:=14) rfl B5 ?_;refine kV ?_;refine Zg (Be _ _ _) (λn T x' Y D=>∃(i:Nat) (u u5 u6 bi aS bc aZ aC lH lG sF aA aF aG an:Value),i<=A/\n=A - i/\T=⟨#[U,undef,AG,u,undef,u5,u6,U,nv,I,AB A,AB i,bi,aS,bc,aZ,aC,lH,lG,sF,aA,aF,aG,an,undef],[]⟩/\LSt cs (bT.map (·.map MI.val)) i (((bT[i]?).getD []).map MI.val) x'/\D.ownsRow Low 48 3 u ((bT.take i).flatten).length (Gy ((bT.take i).flatten))/\(∀k,u.ownBlock=some k->Y k/\I.ownBlock≠some k)/\D.ownsRow Low 67 1 I A (cs.map λc=>.chan (some c))/\(∀k,I.ownBlock=some k->Y k)/\Held Low w₀ Y D) A
  ⟨0,AG,undef,undef,undef,undef,undef,undef,undef,undef,undef,undef,undef,undef,undef,undef,DZ _,rfl,rfl,LSt.begin _ _ (by rw[CW,aO]) _ (λai F=>?_),World.ownsRow_nil _ _ _ _,(λk d=>by cases d),y,E,S⟩ ?_
 ·rw[JS] at F
  cases ag:bT[0]? with
  | none=>rw[ag] at F;cases F
  | some r0=>rw[ag] at F;cases F;rfl
 clear y E S O1 W1 zK;rintro n _ aM O w ⟨i,u,u5,u6,bi,aS,bc,aZ,aC,lH,lG,sF,aA,aF,aG,an,hi,rfl,rfl,l,B,J,y,E,S⟩;by_cases bB:i<A
 ·have bA:(i:Int)<(A:Int):=by omega
  have aJ:i<cs.length:=AQ
  have xC:i<bT.length:=AQ
  obtain⟨bm,bk,Z,_,a7⟩:=Ua (Joins.ownsRow_le y (DZ _));obtain⟨b,br,az,aj⟩:=a7 i (.chan (some cs[i])) (by rw[JS,DW aJ];rfl);subst br;clear a7;have ab:=DW aJ;have xm:=AV (take_snoc bT i xC);have bb:(bT[i]?).getD []=bT[i]:=by rw[DW xC];rfl
  rw[bb] at l;have aK:=AV (uf _ (CJ xC));have eF:Hid ((bT.take i).flatten.length+bT[i].length<=1000000):=by
   show _<=_
   have h1:(bT.take (i+1)).flatten.length<=bT.flatten.length:=by
    have:bT.flatten=(bT.take (i+1)).flatten++(bT.drop (i+1)).flatten:=by rw[<-FD,IA]
    rw[this,CO];omega
   rw[xm.out,FD,CO] at h1;simp only[D3,ND,GI] at h1;omega
  have qf:Hid (∀ai,(bT.map (·.map MI.val))[i+1]?=some ai->ai=((bT[i+1]?).getD []).map MI.val):=by
   intro ai F;rw[JS] at F;cases ag:bT[i+1]? with
   | none=>rw[ag] at F;cases F
   | some r0=>rw[ag] at F;cases F;rfl
  revert aj l ab xm aK eF
  generalize bT[i]=r;generalize cs[i]=c;intro l aj ab xm aK eF;have jC:=AV (λah (hW:Keep Low O w ah)=>(World.cell?_of_block (a:=(AK b i)) (hW.mine _ (E b az))).trans aj);have vz:=E b az;have oz:=AV Z;clear aj bb aJ xC;rw[oz.out];have _Y:=jC.out;refine kV ?_;clear _Y;rw[<-oz.out];clear az oz vz Z jC;have a9:Hid (IntKind.i64.wrap ((i:Int)+1)=((i+1:Nat):Int)):=by show _=_;rw[IntKind.wrap_i64];omega
  refine Zg (Be _ _ _) (λn T x' Y D=>∃(k:Nat) (u v6 aH aE aI aw aL ar ax:Value),k<=r.length/\n=r.length - k/\T=⟨#[U,undef,AG,u,undef, .chan (some c),v6,U,nv,I,AB A,AB i, .bool true, .pointer (some (AK b i)), .chan (some c), .chan (some c),aH,aE,aI,aw,aL,ar,ax,an,undef],[]⟩/\LSt cs (bT.map (·.map MI.val)) i ((r.drop k).map MI.val) x'/\D.ownsRow Low 48 3 u ((bT.take i).flatten++r.take k).length (Gy ((bT.take i).flatten++r.take k))/\(∀k,u.ownBlock=some k->Y k/\I.ownBlock≠some k)/\D.ownsRow Low 67 1 I A (cs.map λc=>.chan (some c))/\(∀k,I.ownBlock=some k->Y k)/\Held Low w₀ Y D) r.length
   ⟨0,u,u6,aC,lH,lG,sF,aA,aF,aG,DZ _,rfl,rfl,by rw[NA];exact l,by rw[List.take_zero,GI];exact B,J,y,E,S⟩ ?_
  clear l B J y E S O w u aM;rintro n _ aM O w ⟨k,u,v6,aH,aE,aI,aw,aL,ar,ax,d,rfl,rfl,l,B,J,y,E,S⟩;have ao:Hid (∀g:World,(execOp (Act.eval ⟨#[U,undef,AG,u,undef, .chan (some c),v6,U,nv,I,AB A,AB i, .bool true, .pointer (some (AK b i)), .chan (some c), .chan (some c),aH,aE,aI,aw,aL,ar,ax,an,undef],[]⟩) {dst:=some 16,op:=.recv 67 (.tmp 15) true,type:=0,pos:= "l7_way.go:13",after:=#[],guard:=none}).run prog g=.ok (.comm #[rcase c (.agg #[AB 0,AB 0,AG])] true (.recv true)) g):=by
   intro g;go_simp;rfl
  by_cases aD:k<r.length
  ·have ba:=F3 aD
   have kT:Hid ((bT.take i).flatten++r.take (k+1)=((bT.take i).flatten++r.take k)++[r[k]]):=by show _=_;rw[take_snoc r k aD,EI]
   have al:=aK _ (CJ aD);have vW:Hid (((bT.take i).flatten++r.take k).length+1<=1000000):=by
    show _<=_
    have h1:=eF.out;rw[CO,FP];omega
   rw[ba] at l;clear ba
   revert l kT al
   generalize r[k]=m;intro l kT al;obtain⟨L,R,a6⟩:=Af al;clear al;obtain⟨Q,M,N,xa⟩:=m;dsimp only at a6;subst a6;rw[CQ] at l;have af:=l.2.2.1 c ab;repeat (first | (first | refine Lh (Be _ _ _) ?_ | refine Ul (Be _ _ _) ?_ | refine W9 (Be _ _ _) ?_ | refine Uk (Be _ _ _) ?_ | refine I0 (Be _ _ _) ?_ | refine Xa (Be _ _ _) ?_ | refine Qy (Be _ _ _) ?_) | (simp only[Xb,Nv,if_true,DC,reduceIte,Nat.reduceEqDiff]))
   (refine Gh (Be _ _ _) ?_;simp only[Cd,CH,CP,Nat.reduceAdd,CV,List.range,List.range.loop])
   refine YS (j:=i) (c:=c) (z:=.agg #[AB 0,AB 0,AG]) rfl Ab af ao (λg=>by simp[execOp]) ?_ (λh=>by cases h);intro v bz aQ;obtain⟨rfl,rfl⟩:=List.cons.inj aQ;clear aQ af ao;replace l:=l.recv ab;simp only[MI.val];try walk_nrm
   refine kV ?_;have au:=C2.refl Low O w;refine Og (Be _ _ _) rfl Ab ?_ ?_
   ·intro _;simp[go_sem];done
   intro g hR K hK;go_simp;refine hK _ _ ?_;clear hK K;obtain⟨O2,eO,C,V,H,ap,X,ac⟩:=K2 S hR #[AB 0,AB 0,AG] 48;rw[<-eO];clear eO
   revert C V H ap X ac
   generalize g.alloc (.cells #[AB 0,AB 0,AG] 48)=W2;generalize g.heap.size=b2;intro C V H ap X ac;replace C:=au.trans C;replace X :=λx hx=>X x (au.own x hx)
   clear hR g;try walk_nrm
   refine Yt (Be _ _ _) b2 H rfl Ab ?_ ?_
   ·intro g hR e he
    have s:=(hR.mine _ H).trans ac;have y0:g.cell? (AK b2 0)=some (AB 0):=cell_of_heap s 0;have z0:=frozen_of_heap s 0;have y1:g.cell? (AK b2 1)=some (AB 0):=cell_of_heap s 1;have z1:=frozen_of_heap s 1;have y2:g.cell? (AK b2 2)=some AG:=cell_of_heap s 2;have z2:=frozen_of_heap s 2;clear s;simp[go_sem,events_store_slice,storedEv, *] at he
    (first | (subst he;exact⟨_,_,rfl, .inl H⟩) | (rcases he with rfl | rfl<;>exact⟨_,_,rfl, .inl H⟩) | (rcases he with rfl | rfl | rfl | rfl<;>exact⟨_,_,rfl, .inl H⟩) | (rcases he with rfl | rfl | rfl | rfl | rfl | rfl<;>exact⟨_,_,rfl, .inl H⟩))
   intro g hR K hK;have s:=(hR.mine _ H).trans ac;have y0:g.cell? (AK b2 0)=some (AB 0):=cell_of_heap s 0;have z0:=frozen_of_heap s 0;have y1:g.cell? (AK b2 1)=some (AB 0):=cell_of_heap s 1;have z1:=frozen_of_heap s 1;have y2:g.cell? (AK b2 2)=some AG:=cell_of_heap s 2;have z2:=frozen_of_heap s 2;clear s;go_simp;try (unfold stored;go_simp)
   have s:=(hR.mine _ H).trans ac;have hp:EL b2 g (((g.setCell (AK b2 0) (AB Q)).setCell (AK b2 1) (AB M)).setCell (AK b2 2) (AE L N.length R)):=((((EL.refl _ _).set 0 (AB Q)).set 1 (AB M)).set 2 (AE L N.length R))
   have ak:(((g.setCell (AK b2 0) (AB Q)).setCell (AK b2 1) (AB M)).setCell (AK b2 2) (AE L N.length R)).heap[b2]?=some (.cells #[AB Q,AB M,AE L N.length R] 48):=(heap_setCell (heap_setCell (heap_setCell s 0 (AB Q)) 1 (AB M)) 2 (AE L N.length R))
   refine hK _ _ hp ?_;clear hK K s y0 z0 y1 z1 y2 z2 ac;replace C:=(C.rely hR).put hp ap X;replace V:=(V.rely hR).put hp ap
   revert C V ak
   clear hp hR;generalize (((g.setCell (AK b2 0) (AB Q)).setCell (AK b2 1) (AB M)).setCell (AK b2 2) (AE L N.length R))=W2;intro ak C V;have bn:Hid (∀ah,Keep Low O2 W2 ah->∀ii,ah.cell? (AK b2 ii)=(#[AB Q,AB M,AE L N.length R]:Array Value)[ii]?):=λah hW ii=>(hW.ext.cell (.inl H) ii).trans (cell_of_heap ak ii)
   clear ak;try walk_nrm
   replace B:=C.row B (λk d=>.inl (J k d).1);replace y:=C.row y (λk d=>.inl (E k d));have xy:Hid (some b2≠u.ownBlock):=λe=>X b2 (J b2 e.symm).1 rfl
   have kQ:∀k,u.ownBlock=some k->O2 k/\I.ownBlock≠some k:=λk d=>⟨C.own _ (J k d).1,(J k d).2⟩
   have qG:=λk d=>C.own _ (E k d)
   clear au S J E C X O w;have _Y:=cs3 bn;refine kV ?_;clear _Y;refine Og (Be _ _ _) rfl Ab ?_ ?_
   ·intro W1;simp[go_sem];done
   intro g hR K hK;go_simp;refine hK _ _ ?_;clear hK K;obtain⟨O4,eO,W,oD,aB,aN,tZ,uC⟩:=NF V hR (.cells #[AB Q,AB M,AE L N.length R] 48);rw[<-eO];clear eO
   revert W oD aB aN tZ uC
   generalize g.alloc (.cells #[AB Q,AB M,AE L N.length R] 48)=W4;generalize g.heap.size=b4;intro W oD aB aN tZ uC;clear hR g;try walk_nrm
   replace B:=W.row B (λk d=>.inl (kQ k d).1);replace y:=W.row y (λk d=>.inl (qG k d));have vM:=λk d=>W.own _ (kQ k d).1
   have nP:=λk d=>W.own _ (qG k d)
   obtain⟨i0,aY,bj,aU,a3⟩:=info_parts LN;refine UZ (Be _ _ _) rfl Ab (.tmp 19) (.tmp 21) 25 rfl 48 i0 (.agg #[AB 0,AB 0,AG]) 3 40 underlying25 aY bj aU a3 rfl AY u _ _ BM B vM b4 1 [AB Q,AB M,AE L N.length R] BM rfl aB ?_ ?_ ?_ ?_ oD ?_
   ·intro jj bp hu
    rw[cell_of_heap uC];simpa using hu
   ·intro bp hu
    simp only[C7,EA,DR] at hu;rcases hu with rfl | rfl | rfl<;>rfl
   ·have:=vW.out;simp only[maxLen];omega
   ·have:=vW.out;omega
   clear aY bj aU a3 i0;intro v5 W5 O5 bv tN ku xO bg oC;try walk_nrm
   have bq:=U9 y λk d=>bg k (nP k d) λe=>(kQ k e.symm).2 d
   have jv:=λk d=>xO k (nP k d)
   have lg:∀k,v5.ownBlock=some k->O5 k/\I.ownBlock≠some k:=λk d=>⟨tN k d,λe=>by
    rcases ku k d with h | h
    ·exact(kQ k h.symm).2 e
    ·exact h (nP k e)⟩
   clear B y vM nP kQ qG bg xO tN ku oD V uC W tZ;refine kV ?_;refine⟨r.length - (k+1),AQ,k+1,v5,_,_,_,_,_,_,_,_,AQ,rfl,rfl,l,?_,lg,bq,jv,oC⟩;rw[kT.out,si,CO];exact bv
  ·obtain rfl:k=r.length:=by omega
   rw[List.drop_length,C6] at l;rw[IV] at B;have af:=l.2.2.1 c ab;repeat (first | (first | refine Lh (Be _ _ _) ?_ | refine Ul (Be _ _ _) ?_ | refine W9 (Be _ _ _) ?_ | refine Uk (Be _ _ _) ?_ | refine I0 (Be _ _ _) ?_ | refine Xa (Be _ _ _) ?_ | refine Qy (Be _ _ _) ?_) | (simp only[Xb,Nv,if_true,DC,reduceIte,Nat.reduceEqDiff]))
   (refine Gh (Be _ _ _) ?_;simp only[Cd,CH,CP,Nat.reduceAdd,CV,List.range,List.range.loop])
   refine YS (j:=i) (c:=c) (z:=.agg #[AB 0,AB 0,AG]) rfl Ab af ao (λg=>by simp[execOp]) (λv bz h=>by cases h) ?_;intro _;clear af ao;replace l:=l.done ab (by rw[CW,aO]) _ qf.out;try walk_nrm
   have bF:=a9.out;clear a9;refine kV ?_;refine⟨A - (i+1),AQ,i+1,u,_,_,_,_,_,_,_,_,_,_,_,_,_,_,AQ,rfl,rfl,l,?_,J,y,E,S⟩;rw[xm.out,FD];simp only[D3,ND,GI];exact B
 ·have bE:¬(i:Int)<(A:Int):=by omega
  obtain rfl:i=A:=AQ
  have bw:∀e∈aM,e.2.2=true:=λe he=>by
   obtain⟨t,ht⟩:=List.mem_iff_getElem?.1 he;exact l.1 t (by have:=(List.getElem?_eq_some_iff.1 ht).1;rw[l.2.1,ae] at this;exact this) e ht
  rw[EC AQ] at B;refine kV ?_;refine KX (Be _ _ _) (fn:=14) rfl B5 ?_;refine kV ?_;refine(Be _ _ _).ctl rfl (g':=_) ?_ (λ_=>stepG_ret') ?_
  ·rfl
  refine iS rfl bw λg hK=>bu _ g u rfl (bs _) ?_ ?_
  ·exact hK.ext.row B λk d=>.inl (J k d).1
  ·have:=S.rely hK
   exact⟨this.still,this.low,λ_ h=>h.elim,this.os,this.out⟩
