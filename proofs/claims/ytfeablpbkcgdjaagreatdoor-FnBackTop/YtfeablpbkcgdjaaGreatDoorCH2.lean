import Derived.Test.YtfeablpbkcgdjaaGreatDoorCG7
import Derived.Test.YtfeablpbkcgdjaaGreatDoorK15
set_option maxRecDepth 100000
set_option maxHeartbeats 4000000
namespace Go.Co
open Stil Go.Conc
section
variable {cs:List Frame}{k:List Item}{ops:Array Oper}
variable {τ:Type}{P:Program}{main:Bool}{Low:Nat}{pre:τ -> World -> Prop}{ok:τ -> (Nat -> Prop) -> World -> Goroutine -> Prop}{fn:FuncId}{a:Act}{x:τ}{O:Nat -> Prop}{w:World}
theorem KI (T:OkL P main Low pre ok){b:Frame}{c d:Code}(l:b.fn=fn)(m:b.kind≠.early)
  (h:WpK ok fn c (U4 (λj f g i=>ok f g i (G (b.at j (.code d::k)) cs)) (λ_ _ _ _ _=>False)) a x O w):ok x O w (G (b.at a (.code (.seq c d)::k)) cs):=by
 refine T.ctl rfl rfl (λ_=>stepG_seq) (h b (.code d::k) cs l m λe j f g i q=>?_);cases e with
 | normal=>exact q
 | _=>exact q.elim
theorem o0 (T:OkL P main Low pre ok){b:Frame}{d:Nat}(h:ok x O w (G (b.at a (.inRegion ops (List.range ops.size)::k)) cs)):ok x O w (G (b.at a (.code (.region d ops false)::k)) cs):=
 T.ctl rfl rfl (λ_=>stepG_region) h
theorem ZD (T:OkL P main Low pre ok){b:Frame}{i:Nat}{rest:List Nat}{o:Oper}{v:Value}(j:ops[i]?=some o)(g:Region.wanted o (yielded ops a.tmps)=true)(f:b.kind≠.early)
  (hr:∀d:World,(execOp a.eval o).run P d=.ok (.value v) d) (e:∀d:World,(execOp a.eval o).events P d #[]=#[]) (h:ok x O w (G (b.at (a.put o.dst v) (.inRegion ops rest::k)) cs)):ok x O w (G (b.at a (.inRegion ops (i::rest)::k)) cs):=by
 refine T.ctl rfl rfl (λd=>?_) h;rw[stepG_value j g f (hr d)];unfold listed;rw[e,seen_none]
end
end Go.Co
namespace Go.Proofs.YtfeablpbkcgdjaaGreatDoor
open Tryz Stil Go.RowKit Go.Sort Go.BigFrame Go.Conc Go.Co
variable {Low c:Nat}
theorem ek (w₀:World)(m:Oa)(hg:GL m.arm)(H:GF m.net.net)(J:Ac m.net.net<=1000000)(d:VOk Low w₀ m):∃R,MIs w₀ R (Ef m.arm)/\∀w O,Held Low w₀ O w->
  okS prog Low c (R.map MI.val) O w (born prog (dcall 72 #[.chan (some c), .agg #[.int .i64 m.net.kind, .int .i64 m.net.op,m.net.av,m.net.kv,m.cv,m.kv]])):=by
 obtain⟨Y,h1,q⟩:=YE (c:=c) w₀ m.net H J d.net;obtain⟨S,h2,C⟩:=ej (c:=c) w₀ m hg d;refine⟨Y++(S++[mi0 11]),?_,λw O hF=>?_⟩
 .unfold Ef
  rw[show m.arm.net=m.net.net by rw[Oa.arm_eq]];exact h1.append (h2.snoc 11)
 obtain⟨u,n,Z⟩:=d.net.devs;obtain⟨B,A,F,_⟩:=d.net.kids;obtain⟨X,I,L,_⟩:=d.coils;obtain⟨N,rd,U,_⟩:=d.kids;clear h1 h2 d hg H J;obtain⟨⟨r,no,y,na,nv,s⟩,cv,cs,kv,M⟩:=m;dsimp only at Z F L U q C ⊢;subst Z F L U;rw[CX,CX,CN,EB,MI.val,mi0];refine ZB func72 A0 rfl ?_;have HB:Hid (∀rest O w,Held Low w₀ O w->Jg prog (okS prog Low c) 112 #[.chan (some c), .agg #[.int .i64 r, .int .i64 no, .slice u y.length n, .slice B s.length A]] (Y.map MI.val++rest) O w λ_ D g j=>D=rest/\CV Low O g w j/\Held Low w₀ g j):=q;have HT:Hid (∀rest O w,Held Low w₀ O w->Jg prog (okS prog Low c) 113 #[.chan (some c), .agg #[.int .i64 r, .int .i64 no, .slice u y.length n, .slice B s.length A, .slice X cs.length I, .slice N M.length rd]] (S.map MI.val++rest) O w λ_ D g j=>D=rest/\CV Low O g w j/\Held Low w₀ g j):=C;clear q C;simp only[ntmps72,CS,CC,CM,Nat.reduceAdd,Nat.reduceSub,DF,DG,DJ,DI,C3,CY];refine KI (Aw _ _ _) (fn:=72) rfl yEb ?_
 (refine Fq (Aw _ _ _) ?_;simp only[CS,CC,CM,Cd,List.range,List.range.loop])
 refine kB hF #[.int .i64 r, .int .i64 no, .slice u y.length n, .slice B s.length A, .slice X cs.length I, .slice N M.length rd] 60 λO1 W1 b1 ad aa E ac l=>?_
 try walk_nrm
 refine O9 (Aw _ _ _) ?_;simp only[U4];refine KI (Aw _ _ _) (fn:=72) rfl yEb ?_;have _Y:=cs6 l;refine kW ?_;clear _Y
 (refine Gm (Aw _ _ _) rfl A0 rfl (HB _ _ _ aa) BJ ?_;rintro _ _ O2 W2 ⟨rfl,V,ab⟩;try walk_nrm)
 replace l:=G1 l V E;replace E:=V.own _ E;refine O9 (Aw _ _ _) ?_;simp only[U4];refine KI (Aw _ _ _) (fn:=72) rfl yEb ?_;have _Y:=cs6 l;refine kW ?_;clear _Y
 (refine Gm (Aw _ _ _) rfl A0 rfl (HT _ _ _ ab) BJ ?_;rintro _ _ O3 W3 ⟨rfl,dZ,ae⟩;try walk_nrm)
 refine O9 (Aw _ _ _) ?_;simp only[U4];refine KI (Aw _ _ _) (fn:=72) rfl yEb ?_;refine kW ?_;refine o0 (Aw _ _ _) ?_;simp only[CS,CC,CM,Nat.reduceAdd,Cd,List.range,List.range.loop];refine ZD (Aw _ _ _) rfl A0 yEb (v:=.chan (some c)) (λ_=>by go_simp) (λ_=>by simp[go_sem]) ?_;refine vD rfl A0 yEb rfl (by simp[Act.eval,Act.put]) AY ?_ (tL func72 rfl rfl)
 .rfl
variable {Low:Nat}{Stop:Goroutine -> World -> Prop}
def QV (Low:Nat)(w₀:World)(m:Oa)(f:Nat->List MI):Prop:=∀c w O,Held Low w₀ O w->
 okS prog Low c ((f c).map MI.val) O w (born prog (dcall 72 #[.chan (some c), .agg #[.int .i64 m.net.kind, .int .i64 m.net.op,m.net.av,m.net.kv,m.cv,m.kv]]))
theorem take_snoc {α:Type}(l:List α)(j:Nat)(h:j<l.length):l.take (j+1)=l.take j++[l[j]]:=by rw[List.take_add_one,D1 h];rfl
theorem uW:(prog.info? 76).map (λi=>(i.zero,i.size,i.bytes))=some (some (.chan none),1,8):=AY
theorem dn (w:World):Sem.run prog (Instr.makeChan 76 (.int .i64 0)) w=.ok (.chan (some w.heap.size)) (w.alloc (.chan 0 #[] false 0 0 false)):=by
 obtain⟨d,hi,e,b,f⟩:=info_parts N2;exact run_makeChan underlying76 hi .i64 0 AU AU
theorem vo (w:World):Sem.events prog (Instr.makeChan 76 (.int .i64 0)) w #[]=#[]:=by
 obtain⟨d,hi,e,b,f⟩:=info_parts N2;exact events_makeChan underlying76 hi .i64 0 AU AU _
theorem dx (w₀:World)(ms:List Oa)(f:Oa->Nat->List MI)(a:Option Addr)(cap:Nat)(az:∀i (h:i<ms.length),∃b o,a=some ⟨b,o,none⟩/\b<Low/\Vu w₀ b (o+i*6) ms[i])(aL:∀m∈ms,VOk Low w₀ m)(aC:∀m∈ms,QV Low w₀ m (f m))(hl:ms.length<=1000)(Oo:Nat->Prop)(wo:World)(qU:Held Low w₀ Oo wo):
  Jg prog (okR prog Low Stop) 40 #[.slice a ms.length cap] [] Oo wo λv x' O' w'=>∃cs:List Nat,cs.length=ms.length/\x'=List.zipWith (λc m=>(c,(f m c).map MI.val,false)) cs ms/\
   w'.ownsRow Low 76 1 v ms.length (cs.map λc=>.chan (some c))/\(∀k,v.ownBlock=some k->O' k)/\Held Low w₀ O' w':=by
 have aS:=resultsC_tmp (P:=prog) (fn:=Tryz.f40) rfl;have aO:=Ab aL;have aT:=Ab aC;have aN:=Ab az;clear aL aC az;refine Hf func40 A0 rfl ?_;simp only[ntmps40,CS,CC,CM,Nat.reduceAdd,Nat.reduceSub,DF,DG,DJ,DI,C3,CY];refine kV ?_
 refine Xp (A8 _ _ _) (λn a' x' O' w'=>∃(j:Nat) (cs:List Nat) (sv u5 u6 aM aH av aw aJ ax ap eY eX jJ ay:Value),j<=ms.length/\n=ms.length - j/\a'=⟨#[.slice a ms.length cap,undef, .slice none 0 0,sv,undef,u5,u6, .slice a ms.length cap, .int .i64 ms.length, .int .i64 j,aM,aH,av,aw,aJ,ax,ap,eY,eX,jJ,ay,undef],[]⟩/\
  cs.length=j/\x'=List.zipWith (λc m=>(c,(f m c).map MI.val,false)) cs (ms.take j)/\w'.ownsRow Low 76 1 sv j (cs.map λc=>.chan (some c))/\(∀k,sv.ownBlock=some k->O' k)/\Held Low w₀ O' w') ms.length
  ⟨0,[], .slice none 0 0,undef,undef,undef,undef,undef,undef,undef,undef,undef,undef,undef,undef,undef,DK _,rfl,rfl,rfl,rfl,World.ownsRow_nil _ _ _ _,(λk q=>by cases q),qU⟩ ?_
 rintro n _ _ O w ⟨j,cs,sv,u5,u6,aM,aH,av,aw,aJ,ax,ap,eY,eX,jJ,ay,hj,rfl,rfl,aj,rfl,hS,uY,ai⟩;try dsimp only
 by_cases an:j<ms.length
 .have a2:(j:Int)<(ms.length:Int):=by omega
  obtain⟨b,o,rfl,hb,hc⟩:=aN j an;have hm:=CG an;have Z:=aO _ hm;have ac:=aT _ hm;have pV:=Ab (take_snoc ms j an);have aQ:Hid ((ms.take j).length=j):=by show _=_;rw[Fo];omega
  revert hc Z ac pV
  generalize ms[j]=x;intro hc Z ac pV;obtain⟨fx,ak⟩:∃fx,fx=f x:=⟨_,rfl⟩
  have xZ:=Ab ak;rw[<-ak] at ac;clear ak;obtain⟨F,R,aI⟩:=Z.net.devs;obtain⟨I,Q,aD,_⟩:=Z.net.kids;obtain⟨L,B,jS,_⟩:=Z.coils;obtain⟨y,T,aG,_⟩:=Z.kids;clear Z;obtain⟨⟨A,S,D,xa,yF,J⟩,aX,C,aZ,N⟩:=x;dsimp only at aI aD jS aG;subst aI aD jS aG;have eH:=Ab (λW (hW:Keep Low O w W)=>hc.held (ai.rely hW) hb);have aU:Hid (∀c w O,Held Low w₀ O w->okS prog Low c ((fx c).map MI.val) O w (born prog (dcall 72 #[.chan (some c), .agg #[.int .i64 A, .int .i64 S, .slice F D.length R, .slice I J.length Q, .slice L C.length B, .slice y N.length T]]))):=ac;clear hc hm ac;have al:=CV.refl Low O w;have _Y:=eH.out;simp only[Vu,Uz] at _Y;refine kV ?_;clear _Y;refine Ld (A8 _ _ _) rfl A0 ?_ ?_
  .intro _;simp[go_sem];done
  intro l hR K hK;go_simp;refine hK _ _ ?_;clear hK K;obtain⟨O2,X,s,V,r,af,Y,ab⟩:=KV ai hR #[.int .i64 0, .int .i64 0, .slice none 0 0, .slice none 0 0, .slice none 0 0, .slice none 0 0] 60;rw[<-X];clear X
  revert s V r af Y ab
  generalize l.alloc (.cells #[.int .i64 0, .int .i64 0, .slice none 0 0, .slice none 0 0, .slice none 0 0, .slice none 0 0] 60)=W2;generalize l.heap.size=b2;intro s V r af Y ab;replace s:=al.trans s;replace Y :=λx hx=>Y x (al.own x hx)
  clear hR l;try walk_nrm
  refine Wx (A8 _ _ _) b2 r rfl A0 ?_ ?_
  .intro l hR e he
   have d:=(hR.mine _ r).trans ab;have y0:l.cell? ⟨b2,0,none⟩=some (.int .i64 0):=cell_of_heap d 0;have z0:=frozen_of_heap d 0;have y1:l.cell? ⟨b2,1,none⟩=some (.int .i64 0):=cell_of_heap d 1;have z1:=frozen_of_heap d 1;have y2:l.cell? ⟨b2,2,none⟩=some (.slice none 0 0):=cell_of_heap d 2;have z2:=frozen_of_heap d 2;have y3:l.cell? ⟨b2,3,none⟩=some (.slice none 0 0):=cell_of_heap d 3;have z3:=frozen_of_heap d 3;have y4:l.cell? ⟨b2,4,none⟩=some (.slice none 0 0):=cell_of_heap d 4;have z4:=frozen_of_heap d 4;have y5:l.cell? ⟨b2,5,none⟩=some (.slice none 0 0):=cell_of_heap d 5;have z5:=frozen_of_heap d 5;clear d;simp[go_sem,events_store_slice,storedEv, *] at he
   (first | (subst he;exact⟨_,_,rfl, .inl r⟩) | (rcases he with rfl | rfl<;>exact⟨_,_,rfl, .inl r⟩) | (rcases he with rfl | rfl | rfl | rfl<;>exact⟨_,_,rfl, .inl r⟩) | (rcases he with rfl | rfl | rfl | rfl | rfl | rfl<;>exact⟨_,_,rfl, .inl r⟩))
  intro l hR K hK;have d:=(hR.mine _ r).trans ab;have y0:l.cell? ⟨b2,0,none⟩=some (.int .i64 0):=cell_of_heap d 0;have z0:=frozen_of_heap d 0;have y1:l.cell? ⟨b2,1,none⟩=some (.int .i64 0):=cell_of_heap d 1;have z1:=frozen_of_heap d 1;have y2:l.cell? ⟨b2,2,none⟩=some (.slice none 0 0):=cell_of_heap d 2;have z2:=frozen_of_heap d 2;have y3:l.cell? ⟨b2,3,none⟩=some (.slice none 0 0):=cell_of_heap d 3;have z3:=frozen_of_heap d 3;have y4:l.cell? ⟨b2,4,none⟩=some (.slice none 0 0):=cell_of_heap d 4;have z4:=frozen_of_heap d 4;have y5:l.cell? ⟨b2,5,none⟩=some (.slice none 0 0):=cell_of_heap d 5;have z5:=frozen_of_heap d 5;clear d;go_simp;try (unfold stored;go_simp)
  have d:=(hR.mine _ r).trans ab;have hp:EH b2 l ((((((l.setCell ⟨b2,0,none⟩ (.int .i64 A)).setCell ⟨b2,1,none⟩ (.int .i64 S)).setCell ⟨b2,2,none⟩ (.slice F D.length R)).setCell ⟨b2,3,none⟩ (.slice I J.length Q)).setCell ⟨b2,4,none⟩ (.slice L C.length B)).setCell ⟨b2,5,none⟩ (.slice y N.length T)):=(((((((EH.refl _ _).set 0 (.int .i64 A)).set 1 (.int .i64 S)).set 2 (.slice F D.length R)).set 3 (.slice I J.length Q)).set 4 (.slice L C.length B)).set 5 (.slice y N.length T))
  have ad:((((((l.setCell ⟨b2,0,none⟩ (.int .i64 A)).setCell ⟨b2,1,none⟩ (.int .i64 S)).setCell ⟨b2,2,none⟩ (.slice F D.length R)).setCell ⟨b2,3,none⟩ (.slice I J.length Q)).setCell ⟨b2,4,none⟩ (.slice L C.length B)).setCell ⟨b2,5,none⟩ (.slice y N.length T)).heap[b2]?=some (.cells #[.int .i64 A, .int .i64 S, .slice F D.length R, .slice I J.length Q, .slice L C.length B, .slice y N.length T] 60):=(heap_setCell (heap_setCell (heap_setCell (heap_setCell (heap_setCell (heap_setCell d 0 (.int .i64 A)) 1 (.int .i64 S)) 2 (.slice F D.length R)) 3 (.slice I J.length Q)) 4 (.slice L C.length B)) 5 (.slice y N.length T))
  refine hK _ _ hp ?_;clear hK K d y0 z0 y1 z1 y2 z2 y3 z3 y4 z4 y5 z5 ab;replace s:=(s.rely hR).put hp af Y;replace V:=(V.rely hR).put hp af
  revert s V ad
  clear hp hR;generalize ((((((l.setCell ⟨b2,0,none⟩ (.int .i64 A)).setCell ⟨b2,1,none⟩ (.int .i64 S)).setCell ⟨b2,2,none⟩ (.slice F D.length R)).setCell ⟨b2,3,none⟩ (.slice I J.length Q)).setCell ⟨b2,4,none⟩ (.slice L C.length B)).setCell ⟨b2,5,none⟩ (.slice y N.length T))=W2;intro ad s V;have U:Hid (∀W,Keep Low O2 W2 W->∀u,W.cell? ⟨b2,u,none⟩=(#[.int .i64 A, .int .i64 S, .slice F D.length R, .slice I J.length Q, .slice L C.length B, .slice y N.length T]:Array Value)[u]?):=λW hW u=>(hW.ext.cell (.inl r) u).trans (cell_of_heap ad u)
  clear ad;try walk_nrm
  have wX:IntKind.i64.wrap ((j:Int)+1)=((j+1:Nat):Int):=by rw[IntKind.wrap_i64];omega
  replace hS:=s.row hS (λk q=>.inl (uY k q));have qi:Hid (some b2≠sv.ownBlock):=λe=>Y b2 (uY b2 e.symm) rfl
  have lK:=λk q=>s.own _ (uY k q)
  clear al ai hb eH uY s Y;repeat (first | (first | refine Jl (A8 _ _ _) ?_ | refine Qv (A8 _ _ _) ?_ | refine U2 (A8 _ _ _) ?_ | refine Qu (A8 _ _ _) ?_ | refine Yq (A8 _ _ _) ?_ | refine U3 (A8 _ _ _) ?_ | refine O9 (A8 _ _ _) ?_) | (simp only[U4,Ko,if_true,C5,reduceIte,Nat.reduceEqDiff]))
  (refine Fq (A8 _ _ _) ?_;simp only[CS,CC,CM,Nat.reduceAdd,Cd,List.range,List.range.loop])
  refine Ld (A8 _ _ _) rfl A0 ?_ ?_
  .intro W1;simp[go_sem,vo];done
  intro l hR K hK;have aP:=dn l;go_simp;refine hK _ _ ?_;clear hK K aP;obtain⟨O3,X,dZ,ah,H,aF,ae,aa⟩:=PZ V hR (.chan 0 #[] false 0 0 false);rw[<-X];clear X
  revert dZ ah H aF ae aa
  generalize l.alloc (.chan 0 #[] false 0 0 false)=W3;generalize l.heap.size=b3;intro dZ ah H aF ae aa;clear hR l;try walk_nrm
  replace U:=G1 U dZ r;replace r:=dZ.own _ r;replace hS:=dZ.row hS (λk q=>.inl (lK k q));have qA:Hid (some b3≠sv.ownBlock):=λe=>ae b3 (lK b3 e.symm) rfl
  have oW:=λk q=>dZ.own _ (lK k q)
  clear lK dZ ae V
  (refine Oe (A8 _ _ _) rfl A0 ?_ ?_;(focus (intro _;first | (simp[go_sem];done) | (simp[go_sem, *];done)));intro _ K hK;go_simp;refine hK _ ?_;clear hK K;try walk_nrm)
  repeat (first | (first | refine Jl (A8 _ _ _) ?_ | refine Qv (A8 _ _ _) ?_ | refine U2 (A8 _ _ _) ?_ | refine Qu (A8 _ _ _) ?_ | refine Yq (A8 _ _ _) ?_ | refine U3 (A8 _ _ _) ?_ | refine O9 (A8 _ _ _) ?_) | (simp only[U4,Ko,if_true,C5,reduceIte,Nat.reduceEqDiff]))
  (refine Fq (A8 _ _ _) ?_;simp only[CS,CC,CM,Nat.reduceAdd,Cd,List.range,List.range.loop])
  (refine Oe (A8 _ _ _) rfl A0 ?_ ?_;(focus (intro _;first | (simp[go_sem];done) | (simp[go_sem, *];done)));intro _ K hK;go_simp;refine hK _ ?_;clear hK K;try walk_nrm)
  (refine Oe (A8 _ _ _) rfl A0 ?_ ?_;(focus (intro _;first | (simp[go_sem];done) | (simp[go_sem, *];done)));intro _ K hK;go_simp;refine hK _ ?_;clear hK K;try walk_nrm)
  refine Ld (A8 _ _ _) rfl A0 ?_ ?_
  .intro W1;simp[go_sem];done
  intro l hR K hK;go_simp;refine hK _ _ ?_;clear hK K;obtain⟨O4,X,E,jF,ag,aK,pG,lS⟩:=PZ ah hR (.cells #[.chan (some b3)] 76);rw[<-X];clear X
  revert E jF ag aK pG lS
  generalize l.alloc (.cells #[.chan (some b3)] 76)=W4;generalize l.heap.size=b4;intro E jF ag aK pG lS;clear hR l;try walk_nrm
  replace U:=G1 U E r;replace r:=E.own _ r;replace hS:=E.row hS (λk q=>.inl (oW k q));have uX:=λk q=>E.own _ (oW k q)
  replace aa:=(E.mine _ H).trans aa;replace H:=E.own _ H;clear oW E pG ah;obtain⟨i0,hi,aE,ar,au⟩:=info_parts uW;refine SG (A8 _ _ _) rfl A0 (.tmp 14) (.tmp 16) 74 rfl 76 i0 (.chan none) 1 8 underlying74 hi aE ar au rfl AZ sv j _ BJ hS uX b4 1 [.chan (some b3)] BJ rfl ag ?_ ?_ ?_ ?_ jF ?_
  .intro jj aR hu
   rw[cell_of_heap lS];simpa using hu
  .intro aR hu
   rw[List.mem_singleton.1 hu];rfl
  .simp only[maxLen];omega
  .omega
  clear hi aE ar au i0;intro v5 W5 O5 aB lJ _ pF ao M;try walk_nrm
  have ru:Hid (∀W,Keep Low O5 W5 W->∀u,W.cell? ⟨b2,u,none⟩=(#[.int .i64 A, .int .i64 S, .slice F D.length R, .slice I J.length Q, .slice L C.length B, .slice y N.length T]:Array Value)[u]?):=λW hW u=>(World.cell?_of_block (a:=⟨b2,u,none⟩) ((hW.mine _ (pF _ r)).trans (ao _ r qi.out))).trans (U _ (Keep.refl _ _ _) u)
  have aA:=(ao _ H qA.out).trans aa;replace H:=pF _ H;replace r:=pF _ r;clear U ao pF uX hS jF aa lS ag qi qA;have U:=ru;clear ru
  (refine Oe (A8 _ _ _) rfl A0 ?_ ?_;(focus (intro _;first | (simp[go_sem];done) | (simp[go_sem, *];done)));intro _ K hK;go_simp;refine hK _ ?_;clear hK K;try walk_nrm)
  repeat (first | (first | refine Jl (A8 _ _ _) ?_ | refine Qv (A8 _ _ _) ?_ | refine U2 (A8 _ _ _) ?_ | refine Qu (A8 _ _ _) ?_ | refine Yq (A8 _ _ _) ?_ | refine U3 (A8 _ _ _) ?_ | refine O9 (A8 _ _ _) ?_) | (simp only[U4]))
  (refine Fq (A8 _ _ _) ?_;simp only[CS,CC,CM,Nat.reduceAdd,Cd,List.range,List.range.loop])
  have _Y:=cs6 U;refine kV ?_;clear _Y;refine cL (c:=b3) (vs:=(fx b3).map MI.val) rfl A0 ?_ ?_ H ⟨_,_,aA⟩ (aU b3 _ _ ⟨M.still,M.low,λ_ h=>h.elim,M.os,M.out⟩) ?_
  .intro W1
   go_simp;rfl
  .intro W1
   simp[go_sem]
  try walk_nrm
  refine kV ?_;refine⟨ms.length - (j+1),AU,j+1,cs++[b3],v5,_,_,_,_,_,_,_,_,_,_,_,_,_,AU,rfl,rfl,by rw[CO,aj];rfl,?_,?_,λk q=>⟨lJ k q,λe=>?_⟩,⟨M.still,M.low,λk q=>M.up k q.1,M.os,M.out⟩⟩
  .rw[pV.out,List.zipWith_append (by rw[aQ.out,aj]),xZ.out]
   rfl
  .rw[CX]
   exact aB
  .subst e
   rcases aB.2 with⟨hv,_⟩ | ⟨g,aV,cur,hv,_,hg,_⟩
   .rw[hv] at q;cases q
   .rw[hv] at q
    cases q;rw[aA] at hg;cases hg
 .have aW:¬(j:Int)<(ms.length:Int):=by omega
  obtain rfl:j=ms.length:=AU
  refine kV ?_;refine⟨rfl,_,aS _,cs,aj,by rw[IY],hS,uY,ai⟩
