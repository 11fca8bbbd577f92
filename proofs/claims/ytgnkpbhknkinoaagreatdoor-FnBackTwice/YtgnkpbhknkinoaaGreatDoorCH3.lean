import Derived.Test.YtgnkpbhknkinoaaGreatDoorCG7
import Derived.Test.YtgnkpbhknkinoaaGreatDoorCH1
set_option maxRecDepth 100000
set_option maxHeartbeats 8000000
namespace Go.Co
open Stil Go.Conc
section
variable {cs:List Frame}{k:List Item}{ops:Array Oper}
variable {τ:Type}{P:AY}{main:Bool}{Low:Nat}{pre:τ -> AU -> Prop}{ok:τ -> (Nat -> Prop) -> AU -> AX -> Prop}{fn:FuncId}{a:Act}{x:τ}{O:Nat -> Prop}{w:AU}
theorem ME(T:OkL P main Low pre ok){b:Frame}{c d:Code}(m:b.fn=fn)(n:b.kind≠.early)
  (h:WpK ok fn c (Wp (λj l g f=>ok l g f (G (b.at j (.code d::k)) cs)) (λ_ _ _ _ _=>False)) a x O w):ok x O w (G (b.at a (.code (.seq c d)::k)) cs):=by
 refine T.ctl rfl rfl (λ_=>stepG_seq) (h b (.code d::k) cs m n λe j l g f q=>?_);cases e with
 |normal=>exact q|_=>exact q.elim
theorem Auc(T:OkL P main Low pre ok){b:Frame}{d:Nat}(h:ok x O w (G (b.at a (.inRegion ops (List.range ops.size)::k)) cs)):ok x O w (G (b.at a (.code (.region d ops false)::k)) cs):=
 T.ctl rfl rfl (λ_=>stepG_region) h
theorem ju(T:OkL P main Low pre ok){b:Frame}{i:Nat}{rest:List Nat}{o:Oper}{v:AW}(j:ops[i]?=some o)(g:Region.wanted o (yielded ops a.tmps)=true)(f:b.kind≠.early)
  (hr:∀d:AU,(execOp a.eval o).run P d=.ok (.value v) d) (e:∀d:AU,(execOp a.eval o).events P d #[]=#[]) (h:ok x O w (G (b.at (a.put o.dst v) (.inRegion ops rest::k)) cs)):ok x O w (G (b.at a (.inRegion ops (i::rest)::k)) cs):=by refine T.ctl rfl rfl (λd=>?_) h;rw[stepG_value j g f (hr d)];unfold listed;rw[e,seen_none]
end
end Go.Co
namespace Go.Proofs.YtgnkpbhknkinoaaGreatDoor
open Tryz Stil Go.RowKit Go.Sort Go.BigFrame Go.Conc Go.Co
variable {Low c:Nat}
theorem oC(w₀:AU)(m:P6)(hg:Im m.A)(Y:IG m.N.N)(F:Ac m.N.N<=1000000)(d:VOk Low w₀ m):∃X,MIs w₀ X (Eb m.A)/\∀w O,Held Low w₀ O w->
  okS prog Low c (X.map MI.val) O w (born prog (dcall 103 #[.chan (some c),.agg #[AB m.N.kind,AB m.N.op,m.N.av,m.N.kv,m.cv,m.kv]])):=by
 have⟨J,h1,y⟩:=TJ (c:=c) w₀ m.N Y F d.N;have⟨S,h2,E⟩:=nw (c:=c) w₀ m hg d;refine⟨J++(S++[mi0 11]),?_,λw O hF=>?_⟩
 .unfold Eb;rw[show m.A.N=m.N.N by rw[P6.Ae]];exact h1.append (h2.snoc 11)
 have⟨u,B,N⟩:=d.N.devs;have⟨r,C,I,_⟩:=d.N.K;have⟨H,rc,U,_⟩:=d.C;have⟨V,Z,M,_⟩:=d.K;clear h1 h2 d hg Y F;obtain⟨⟨s,no,D,na,nv,n⟩,cv,cs,kv,L⟩:=m;dsimp only at N I U M y E⊢;subst N I U M;rw[D2,D2,DX,FD,MI.val,mi0];refine hU func103 Bn rfl ?_;have HB:=BX y;have HT:=BX E;clear y E;simp only[ntmps103,Db,DO,DU,Nat.reduceAdd,Nat.reduceSub,ES,ET,EV,EU,EB,D4];refine ME (Bg _ _ _) (fn:=103) rfl yEe ?_
 (refine Gq (Bg _ _ _) ?_;simp only[Db,DO,DU,ED,List.range,List.range.loop]);refine kB hF #[AB s,AB no,AE u D.l B,AE r n.l C,AE H cs.l rc,AE V L.l Z] 59 λO1 W1 b1 ae ab A ac l=>?_;try walk_nrm
 refine Qp (Bg _ _ _) ?_;simp only[Wp];refine ME (Bg _ _ _) (fn:=103) rfl yEe ?_;have _Y:=cs6 l;refine kW ?_;clear _Y
 (refine Hf (Bg _ _ _) rfl Bn rfl (HB _ _ _ ab) CM ?_;rintro _ _ O2 W2⟨rfl,R,aa⟩;try walk_nrm);replace l:=JF l R A;replace A:=R.own _ A;refine Qp (Bg _ _ _) ?_;simp only[Wp];refine ME (Bg _ _ _) (fn:=103) rfl yEe ?_;have _Y:=cs6 l;refine kW ?_;clear _Y
 (refine Hf (Bg _ _ _) rfl Bn rfl (HT _ _ _ aa) CM ?_;rintro _ _ O3 W3⟨rfl,gV,ad⟩;try walk_nrm);refine Qp (Bg _ _ _) ?_;simp only[Wp];refine ME (Bg _ _ _) (fn:=103) rfl yEe ?_;refine kW ?_;refine Auc (Bg _ _ _) ?_;simp only[Db,DO,DU,Nat.reduceAdd,ED,List.range,List.range.loop];refine ju (Bg _ _ _) rfl Bn yEe (v:=.chan (some c)) (λ_=>by go_simp) (λ_=>by simp[go_sem]) ?_;refine Ayn rfl Bn yEe rfl xCj BW ?_ (Ax7 func103 rfl rfl);rfl
variable {Low:Nat}{Stop:AX -> AU -> Prop}
def VA(Low:Nat)(w₀:AU)(m:P6)(f:Nat->List MI):Prop:=∀c w O,Held Low w₀ O w->
 okS prog Low c ((f c).map MI.val) O w (born prog (dcall 103 #[.chan (some c),.agg #[AB m.N.kind,AB m.N.op,m.N.av,m.N.kv,m.cv,m.kv]]))
theorem take_snoc{α:Type}(l:List α)(j:Nat)(h:j<l.length):l.take (j+1)=l.take j++[l[j]]:=by rw[List.take_add_one,E7 h];rfl
theorem Aze:(prog.info? 108).map (λi=>(i.zero,i.size,i.bytes))=some (some (.chan none),1,8):=BW
theorem om(w:AU):Sem.run prog (Instr.makeChan 108 (AB 0)) w=.ok (.chan (some w.heap.size)) (w.alloc (.chan 0 #[] false 0 0 false)):=by have⟨e,hi,d,g,f⟩:=info_parts QY;exact run_makeChan underlying108 hi .i64 0 BS BS
theorem fq(w:AU):Sem.events prog (Instr.makeChan 108 (AB 0)) w #[]=#[]:=by have⟨e,hi,d,g,f⟩:=info_parts QY;exact events_makeChan underlying108 hi .i64 0 BS BS _
theorem nR(w₀:World)(ms:List P6)(f:P6->Nat->List MI)(a:Option Addr)(cap:Nat)(ax:∀i(h:i<ms.length),∃b o,a=some ⟨b,o,none⟩/\b<Low/\Xk w₀ b (o+i*6) ms[i])(aO:∀m∈ms,VOk Low w₀ m)(au:∀m∈ms,VA Low w₀ m (f m))(hl:ms.length<=1000)(Oo:Nat->Prop)(wo:World)(vG:Held Low w₀ Oo wo):
  Ky prog (okR prog Low Stop) 61 #[.slice a ms.length cap] [] Oo wo λv x' O' w'=>∃cs:List Nat,cs.length=ms.length/\x'=List.zipWith (λc m=>(c,(f m c).map MI.val,false)) cs ms/\
   w'.ownsRow Low 108 1 v ms.length (cs.map λc=>.chan (some c))/\(∀k,v.ownBlock=some k->O' k)/\Held Low w₀ O' w':=by
 have aT:=resultsC_tmp (P:=prog) (fn:=Tryz.f61) rfl;have aR:=BX aO;have aP:=BX au;have aV:=BX ax;clear aO au ax;refine Ij func61 Bn rfl ?_;simp only[ntmps61,Db,DO,DU,Nat.reduceAdd,Nat.reduceSub,ES,ET,EV,EU,EB,D4];refine kV ?_
 refine Yr (Bl _ _ _) (λn a' x' O' w'=>∃(j:Nat) (cs:List Nat) (Z u5 u6 az aC aJ aH av aL aA gB fZ kP aE:Value),j<=ms.length/\n=ms.length - j/\a'=⟨#[.slice a ms.length cap,undef, .slice none 0 0,Z,undef,u5,u6, .slice a ms.length cap, .int .i64 ms.length, .int .i64 j,az,aC,aJ,aH,av,aL,aA,gB,fZ,kP,aE,undef],[]⟩/\
  cs.length=j/\x'=List.zipWith (λc m=>(c,(f m c).map MI.val,false)) cs (ms.take j)/\w'.ownsRow Low 108 1 Z j (cs.map λc=>.chan (some c))/\(∀k,Z.ownBlock=some k->O' k)/\Held Low w₀ O' w') ms.length
  ⟨0,[],.slice none 0 0,undef,undef,undef,undef,undef,undef,undef,undef,undef,undef,undef,undef,undef,EI _,rfl,rfl,rfl,rfl,World.ownsRow_nil _ _ _ _,(λk q=>by cases q),vG⟩ ?_
 rintro n _ _ O w⟨j,cs,Z,u5,u6,az,aC,aJ,aH,av,aL,aA,gB,fZ,kP,aE,hj,rfl,rfl,ao,rfl,hS,yL,ai⟩;try dsimp only
 by_cases aj:j<ms.length
 .have aZ:(j:Int)<(ms.length:Int):=by omega
  obtain⟨b,o,rfl,hb,hc⟩:=aV j aj;have hm:=DW aj;have Y:=aR _ hm;have ac:=aP _ hm;have pO:=BX (take_snoc ms j aj);have uB:Hid ((ms.take j).length=j):=by show _=_;rw[FN];omega
  revert hc Y ac pO
  generalize ms[j]=x;intro hc Y ac pO;obtain⟨fx,al⟩:∃fx,fx=f x:=⟨_,rfl⟩;have jg:=BX al;rw[<-al]at ac;clear al;obtain⟨D,F,aN⟩:=Y.N.devs;obtain⟨y,M,ar,_⟩:=Y.N.K;obtain⟨T,H,mJ,_⟩:=Y.C;obtain⟨Q,I,aI,_⟩:=Y.K;clear Y;obtain⟨⟨C,R,E,xa,jq,A⟩,aY,S,aX,N⟩:=x;dsimp only at aN ar mJ aI;subst aN ar mJ aI;have gZ:=BX (λW(hW:Keep Low O w W)=>hc.held (ai.rely hW) hb);have aS:Hid (∀c w O,Held Low w₀ O w->okS prog Low c ((fx c).map MI.val) O w (born prog (dcall 103 #[.chan (some c),.agg #[.int .i64 C,.int .i64 R,.slice D E.length F,.slice y A.length M,.slice T S.length H,.slice Q N.length I]]))):=ac;clear hc hm ac;have ak:=Dm.refl Low O w;have _Y:=gZ.out;simp only[Xk,We]at _Y;refine kV ?_;clear _Y;refine Nz (Bl _ _ _) rfl Bn ?_ ?_;{intro _;simp[go_sem];done};intro d hR K hK;go_simp;refine hK _ _ ?_;clear hK K;obtain⟨O2,X,s,V,r,ah,bZ,aa⟩:=MN ai hR #[.int .i64 0,.int .i64 0,.slice none 0 0,.slice none 0 0,.slice none 0 0,.slice none 0 0] 59;rw[<-X];clear X
  revert s V r ah bZ aa
  generalize d.alloc (.cells #[.int .i64 0,.int .i64 0,.slice none 0 0,.slice none 0 0,.slice none 0 0,.slice none 0 0] 59)=W2;generalize d.heap.size=b2;intro s V r ah bZ aa;replace s:=ak.trans s;replace bZ :=λx hx=>bZ x (ak.own x hx);clear hR d;try walk_nrm
  refine X9 (Bl _ _ _) b2 r rfl Bn ?_ ?_
  .intro d hR e he;have l:=(hR.mine _ r).trans aa;have y0:d.cell? ⟨b2,0,none⟩=some (.int .i64 0):=cell_of_heap l 0;have z0:=frozen_of_heap l 0;have y1:d.cell? ⟨b2,1,none⟩=some (.int .i64 0):=cell_of_heap l 1;have z1:=frozen_of_heap l 1;have y2:d.cell? ⟨b2,2,none⟩=some (.slice none 0 0):=cell_of_heap l 2;have z2:=frozen_of_heap l 2;have y3:d.cell? ⟨b2,3,none⟩=some (.slice none 0 0):=cell_of_heap l 3;have z3:=frozen_of_heap l 3;have y4:d.cell? ⟨b2,4,none⟩=some (.slice none 0 0):=cell_of_heap l 4;have z4:=frozen_of_heap l 4;have y5:d.cell? ⟨b2,5,none⟩=some (.slice none 0 0):=cell_of_heap l 5;have z5:=frozen_of_heap l 5;clear l;simp[go_sem,events_store_slice,storedEv, *]at he
   (first|(subst he;exact⟨_,_,rfl,.inl r⟩)|(rcases he with rfl|rfl<;>exact⟨_,_,rfl,.inl r⟩)|(rcases he with rfl|rfl|rfl|rfl<;>exact⟨_,_,rfl,.inl r⟩)|(rcases he with rfl|rfl|rfl|rfl|rfl|rfl<;>exact⟨_,_,rfl,.inl r⟩))
  intro d hR K hK;have l:=(hR.mine _ r).trans aa;have y0:d.cell? ⟨b2,0,none⟩=some (.int .i64 0):=cell_of_heap l 0;have z0:=frozen_of_heap l 0;have y1:d.cell? ⟨b2,1,none⟩=some (.int .i64 0):=cell_of_heap l 1;have z1:=frozen_of_heap l 1;have y2:d.cell? ⟨b2,2,none⟩=some (.slice none 0 0):=cell_of_heap l 2;have z2:=frozen_of_heap l 2;have y3:d.cell? ⟨b2,3,none⟩=some (.slice none 0 0):=cell_of_heap l 3;have z3:=frozen_of_heap l 3;have y4:d.cell? ⟨b2,4,none⟩=some (.slice none 0 0):=cell_of_heap l 4;have z4:=frozen_of_heap l 4;have y5:d.cell? ⟨b2,5,none⟩=some (.slice none 0 0):=cell_of_heap l 5;have z5:=frozen_of_heap l 5;clear l;go_simp;try(unfold stored;go_simp)
  have l:=(hR.mine _ r).trans aa;have hp:FO b2 d ((((((d.setCell ⟨b2,0,none⟩ (.int .i64 C)).setCell ⟨b2,1,none⟩ (.int .i64 R)).setCell ⟨b2,2,none⟩ (.slice D E.length F)).setCell ⟨b2,3,none⟩ (.slice y A.length M)).setCell ⟨b2,4,none⟩ (.slice T S.length H)).setCell ⟨b2,5,none⟩ (.slice Q N.length I)):=(((((((FO.refl _ _).set 0 (.int .i64 C)).set 1 (.int .i64 R)).set 2 (.slice D E.length F)).set 3 (.slice y A.length M)).set 4 (.slice T S.length H)).set 5 (.slice Q N.length I));have ad:((((((d.setCell ⟨b2,0,none⟩ (.int .i64 C)).setCell ⟨b2,1,none⟩ (.int .i64 R)).setCell ⟨b2,2,none⟩ (.slice D E.length F)).setCell ⟨b2,3,none⟩ (.slice y A.length M)).setCell ⟨b2,4,none⟩ (.slice T S.length H)).setCell ⟨b2,5,none⟩ (.slice Q N.length I)).heap[b2]?=some (.cells #[.int .i64 C,.int .i64 R,.slice D E.length F,.slice y A.length M,.slice T S.length H,.slice Q N.length I] 59):=(heap_setCell (heap_setCell (heap_setCell (heap_setCell (heap_setCell (heap_setCell l 0 (.int .i64 C)) 1 (.int .i64 R)) 2 (.slice D E.length F)) 3 (.slice y A.length M)) 4 (.slice T S.length H)) 5 (.slice Q N.length I));refine hK _ _ hp ?_;clear hK K l y0 z0 y1 z1 y2 z2 y3 z3 y4 z4 y5 z5 aa;replace s:=(s.rely hR).put hp ah bZ;replace V:=(V.rely hR).put hp ah
  revert s V ad
  clear hp hR;generalize ((((((d.setCell ⟨b2,0,none⟩ (.int .i64 C)).setCell ⟨b2,1,none⟩ (.int .i64 R)).setCell ⟨b2,2,none⟩ (.slice D E.length F)).setCell ⟨b2,3,none⟩ (.slice y A.length M)).setCell ⟨b2,4,none⟩ (.slice T S.length H)).setCell ⟨b2,5,none⟩ (.slice Q N.length I))=W2;intro ad s V;have U:Hid (∀W,Keep Low O2 W2 W->∀u,W.cell? ⟨b2,u,none⟩=(#[.int .i64 C,.int .i64 R,.slice D E.length F,.slice y A.length M,.slice T S.length H,.slice Q N.length I]:Array Value)[u]?):=λW hW u=>(hW.ext.cell (.inl r) u).trans (cell_of_heap ad u);clear ad;try walk_nrm
  have oG:IntKind.i64.wrap ((j:Int)+1)=((j+1:Nat):Int):=yDa;replace hS:=s.row hS (λk q=>.inl (yL k q));have ay:Hid (some b2≠Z.ownBlock):=λe=>bZ b2 (yL b2 e.symm) rfl;have oU:=λk q=>s.own _ (yL k q);clear ak ai hb gZ yL s bZ;repeat(first|(first|refine Lj (Bl _ _ _) ?_|refine Td (Bl _ _ _) ?_|refine Wl (Bl _ _ _) ?_|refine Tc (Bl _ _ _) ?_|refine Zw (Bl _ _ _) ?_|refine Wn (Bl _ _ _) ?_|refine Qp (Bl _ _ _) ?_)|(simp only[Wp,Np,if_true,EH,reduceIte,Nat.reduceEqDiff]))
  (refine Gq (Bl _ _ _) ?_;simp only[Db,DO,DU,Nat.reduceAdd,ED,List.range,List.range.loop]);refine Nz (Bl _ _ _) rfl Bn ?_ ?_;{intro W1;simp[go_sem,fq];done};intro d hR K hK;have aQ:=om d;go_simp;refine hK _ _ ?_;clear hK K aQ;obtain⟨O3,X,gV,af,J,aB,ag,ab⟩:=PI V hR (.chan 0 #[] false 0 0 false);rw[<-X];clear X
  revert gV af J aB ag ab
  generalize d.alloc (.chan 0 #[] false 0 0 false)=W3;generalize d.heap.size=b3;intro gV af J aB ag ab;clear hR d;try walk_nrm
  replace U:=JF U gV r;replace r:=gV.own _ r;replace hS:=gV.row hS (λk q=>.inl (oU k q));have uH:Hid (some b3≠Z.ownBlock):=λe=>ag b3 (oU b3 e.symm) rfl;have tJ:=λk q=>gV.own _ (oU k q);clear oU gV ag V
  (refine Qa (Bl _ _ _) rfl Bn ?_ ?_;(focus (intro _;first|(simp[go_sem];done)|(simp[go_sem, *];done)));intro _ K hK;go_simp;refine hK _ ?_;clear hK K;try walk_nrm);repeat(first|(first|refine Lj (Bl _ _ _) ?_|refine Td (Bl _ _ _) ?_|refine Wl (Bl _ _ _) ?_|refine Tc (Bl _ _ _) ?_|refine Zw (Bl _ _ _) ?_|refine Wn (Bl _ _ _) ?_|refine Qp (Bl _ _ _) ?_)|(simp only[Wp,Np,if_true,EH,reduceIte,Nat.reduceEqDiff]))
  (refine Gq (Bl _ _ _) ?_;simp only[Db,DO,DU,Nat.reduceAdd,ED,List.range,List.range.loop])
  (refine Qa (Bl _ _ _) rfl Bn ?_ ?_;(focus (intro _;first|(simp[go_sem];done)|(simp[go_sem, *];done)));intro _ K hK;go_simp;refine hK _ ?_;clear hK K;try walk_nrm)
  (refine Qa (Bl _ _ _) rfl Bn ?_ ?_;(focus (intro _;first|(simp[go_sem];done)|(simp[go_sem, *];done)));intro _ K hK;go_simp;refine hK _ ?_;clear hK K;try walk_nrm);refine Nz (Bl _ _ _) rfl Bn ?_ ?_;{intro W1;simp[go_sem];done};intro d hR K hK;go_simp;refine hK _ _ ?_;clear hK K;obtain⟨O4,X,B,lC,ae,aF,tN,pG⟩:=PI af hR (.cells #[.chan (some b3)] 108);rw[<-X];clear X
  revert B lC ae aF tN pG
  generalize d.alloc (.cells #[.chan (some b3)] 108)=W4;generalize d.heap.size=b4;intro B lC ae aF tN pG;clear hR d;try walk_nrm
  replace U:=JF U B r;replace r:=B.own _ r;replace hS:=B.row hS (λk q=>.inl (tJ k q));have yK:=λk q=>B.own _ (tJ k q);replace ab:=(B.mine _ J).trans ab;replace J:=B.own _ J;clear tJ B tN af;obtain⟨i0,hi,aG,aK,aM⟩:=info_parts Aze;refine Wb (Bl _ _ _) rfl Bn (.tmp 14) (.tmp 16) 106 rfl 108 i0 (.chan none) 1 8 underlying106 hi aG aK aM rfl BZ Z j _ CM hS yK b4 1 [.chan (some b3)] CM rfl ae ?_ ?_ ?_ ?_ lC ?_;{intro jj aU hu;rw[cell_of_heap pG];simpa using hu};{intro aU hu;rw[List.mem_singleton.1 hu];rfl};{simp only[maxLen];omega};{omega};clear hi aG aK aM i0;intro v5 W5 O5 aw oQ _ tK an L;try walk_nrm
  have aD:Hid (∀W,Keep Low O5 W5 W->∀u,W.cell? ⟨b2,u,none⟩=(#[.int .i64 C,.int .i64 R,.slice D E.length F,.slice y A.length M,.slice T S.length H,.slice Q N.length I]:Array Value)[u]?):=λW hW u=>(World.cell?_of_block (a:=⟨b2,u,none⟩) ((hW.mine _ (tK _ r)).trans (an _ r ay.out))).trans (U _ (Keep.refl _ _ _) u);have ap:=(an _ J uH.out).trans ab;replace J:=tK _ J;replace r:=tK _ r;clear U an tK yK hS lC ab pG ae ay uH;have U:=aD;clear aD
  (refine Qa (Bl _ _ _) rfl Bn ?_ ?_;(focus (intro _;first|(simp[go_sem];done)|(simp[go_sem, *];done)));intro _ K hK;go_simp;refine hK _ ?_;clear hK K;try walk_nrm);repeat(first|(first|refine Lj (Bl _ _ _) ?_|refine Td (Bl _ _ _) ?_|refine Wl (Bl _ _ _) ?_|refine Tc (Bl _ _ _) ?_|refine Zw (Bl _ _ _) ?_|refine Wn (Bl _ _ _) ?_|refine Qp (Bl _ _ _) ?_)|(simp only[Wp]))
  (refine Gq (Bl _ _ _) ?_;simp only[Db,DO,DU,Nat.reduceAdd,ED,List.range,List.range.loop]);have _Y:=cs6 U;refine kV ?_;clear _Y;refine me (c:=b3) (vs:=(fx b3).map MI.val) rfl Bn ?_ ?_ J ⟨_,_,ap⟩ (aS b3 _ _ ⟨L.still,L.low,λ_ h=>h.elim,L.os,L.out⟩) ?_;{intro W1;go_simp;rfl};{intro W1;simp[go_sem]};try walk_nrm
  refine kV ?_;refine⟨ms.length - (j+1),BS,j+1,cs++[b3],v5,_,_,_,_,_,_,_,_,_,_,_,_,_,BS,rfl,rfl,by rw[DT,ao];rfl,?_,?_,λk q=>⟨oQ k q,λe=>?_⟩,⟨L.still,L.low,λk q=>L.up k q.1,L.os,L.out⟩⟩;{rw[pO.out,List.zipWith_append (by rw[uB.out,ao]),jg.out];rfl};{rw[D2];exact aw};subst e;rcases aw.2 with⟨hv,_⟩|⟨g,a2,cur,hv,_,hg,_⟩;{rw[hv]at q;cases q};rw[hv]at q;cases q;rw[ap]at hg;cases hg
 have aW:¬(j:Int)<(ms.length:Int):=by omega
 obtain rfl:j=ms.length:=BS;refine kV ?_;refine⟨rfl,_,aT _,cs,ao,by rw[KA],hS,yL,ai⟩
end Go.Proofs.YtgnkpbhknkinoaaGreatDoor
namespace Go.Co
open Go.Conc
section
variable {τ:Type}{P:Program}{main:Bool}{Low:Nat}{pre:τ -> World -> Prop}{ok:τ -> (Nat -> Prop) -> World -> Goroutine -> Prop}{fn:FuncId}{a:Act}{x:τ}{O:Nat -> Prop}{w:World}{b:Frame}{k:List Item}{cs:List Frame}
theorem mj{ops:Array Oper}{todo:List Nat}(l:b.fn=fn)(m:b.kind≠.early)(h:Va ok fn ops todo (Wp (λg j f d=>ok j f d (G (b.at g k) cs)) (λ_ _ _ _ _=>False)) a x O w):ok x O w (G (b.at a (.inRegion ops todo::k)) cs):=by refine h b k cs l m λe g j f d q=>?_;cases e with|normal=>exact q|_=>exact q.elim
theorem jz{c:Code}(l:b.fn=fn)(m:b.kind≠.early)(h:WpK ok fn c (Wp (λg j f d=>ok j f d (G (b.at g k) cs)) (λ_ _ _ _ _=>False)) a x O w):ok x O w (G (b.at a (.code c::k)) cs):=by refine h b k cs l m λe g j f d q=>?_;cases e with|normal=>exact q|_=>exact q.elim
end
variable {c i:Nat}{cs:List Nat}
def LSt(cs:List Nat)(f:List (List AW))(i:Nat)(g:List AW)(L:List (Nat × List AW × Bool)):Prop:=
 (∀t,t<i->∀e,L[t]?=some e->e.2.2=true)/\L.length=cs.length/\(∀c,cs[i]?=some c->L[i]?=some (c,g,false))/\∀t c d,i<t->cs[t]?=some c->f[t]?=some d->L[t]?=some (c,d,false)
theorem LSt.begin(cs:List Nat)(d:List (List AW))(hl:d.length=cs.length)(h:List AW)(hr:∀r,d[0]?=some r->r=h):LSt cs d 0 h (List.zipWith (λc f=>(c,f,false)) cs d):=by
 refine⟨λt l=>by omega,by simp[hl],λc e=>?_,λt c f _ e j=>?_⟩
 .rw[List.getElem?_zipWith,e];have g:0<d.length:=by have:=(BO.1 e).1;omega
  rw[E7 g];simp only;rw[hr _ (E7 g)]
 rw[List.getElem?_zipWith,e,j]
theorem LSt.recv{j:List (List AW)}{v:AW}{f:List AW}{L:List (Nat × List AW × Bool)}(h:LSt cs j i (v::f) L)(m:cs[i]?=some c):LSt cs j i f (L.set i (c,f,false)):=by
 have hi:i<L.length:=by rw[h.2.1];exact(BO.1 m).1
 refine⟨λt g e l=>h.1 t g e ?_,by rw[OY];exact h.2.1,λn d=>?_,λt n o g d q=>?_⟩
 .rwa[EP BS]at l
 .rw[m]at d;cases d;rw[GY hi]
 rw[EP BS];exact h.2.2.2 t n o g d q
theorem LSt.done{d:List (List AW)}{L:List (Nat × List AW × Bool)}(h:LSt cs d i [] L)(s:cs[i]?=some c)(hl:d.length=cs.length)(m:List AW)(hr:∀r,d[i+1]?=some r->r=m):LSt cs d (i+1) m (L.set i (c,[],true)):=by
 have hi:i<L.length:=by rw[h.2.1];exact(BO.1 s).1
 refine⟨λt q e f=>?_,by rw[OY];exact h.2.1,λl j=>?_,λt l u q j g=>?_⟩
 .by_cases n:t=i;{subst n;rw[GY hi]at f;cases f;rfl};rw[EP (λe=>n e.symm)]at f;exact h.1 t BS e f
 .rw[EP BS];have o:i+1<d.length:=by rw[hl];exact(BO.1 j).1
  have g:=E7 o;have:=h.2.2.2 (i+1) l _ BS j g;rw[this,hr _ g]
 rw[EP BS];exact h.2.2.2 t l u BS j g
end Go.Co
namespace Go.Proofs.YtgnkpbhknkinoaaGreatDoor
open Tryz Go.RowKit Go.Sort Go.BigFrame Go.Conc Go.Co
variable {Low:Nat}{Stop:AX -> AU -> Prop}
def V8(f:P6->Nat->List MI)(cs:List Nat)(ms:List P6):List (List MI):=List.zipWith (λc m=>f m c) cs ms
theorem cS(f:P6->Nat->List MI):∀(cs:List Nat)(d:List P6),List.zipWith (λc m=>(c,(f m c).map MI.val,false)) cs d=List.zipWith (λc e=>(c,e,false)) cs ((V8 f cs d).map (·.map MI.val))
 |[],_=>by simp[V8]
 |c::cs,[]=>by simp[V8]
 |c::cs,m::d=>by
  have:=cS f cs d
  simp only[V8,fa,DX]at this⊢;rw[this]
theorem nW(w₀:AU)(ms:List P6)(f:P6->Nat->List MI)(aa:Option Ab)(cap:Nat)(aR:∀i(h:i<ms.length),∃b o,aa=some ⟨b,o,none⟩/\b<Low/\Xk w₀ b (o+i*6) ms[i])(bi:∀m∈ms,VOk Low w₀ m)(aO:∀m∈ms,VA Low w₀ m (f m))(hl:ms.length<=1000)
  (aV:∀cs:List Nat,cs.length=ms.length->(V8 f cs ms).flatten.length<=1000000) (aY:∀m∈ms,∀c,∀x∈f m c,Ar w₀ x.e.av x.e.ds) (Oo:Nat->Prop) (wo:AU) (vG:Held Low w₀ Oo wo) (U:AW) (vJ:List Frame)
  {c0 c1 blk tl:Code} {id:Nat} {ops:Array Oper} (aC:Tryz.f26.body=some (.seq c0 (.seq c1 (.seq (.seq (.region id ops false) blk) (.seq tl .ret)))))
  (bb:∀(A:Act) (l:AU) (v:AW) (cs:List Nat),A.defers=[]->ResultsC prog Tryz.f26 A.tmps v->cs.length=ms.length->l.ownsRow Low 77 3 v (V8 f cs ms).flatten.length (Ph (V8 f cs ms).flatten)->Held Low w₀ (λ_=>False) l->
   Stop (G {(base 26).at A [.code .ret] with mode:=.returning} vJ) l):
  okR prog Low Stop [] Oo wo (G ((base 26).at ⟨#[U,undef,.slice none 0 0,.slice none 0 0,undef,undef,undef,U,.slice aa ms.length cap,undef,undef,undef,undef,undef,undef,undef,undef,undef,undef,undef,undef,undef,undef,undef,undef],[]⟩ [.inRegion ops [2,3,4],.code blk,.code (.seq tl .ret)]) vJ):=by
 unfold Tryz.f26 at aC;dsimp only at aC;cases aC;have bp:=resultsC_tmp (P:=prog) (fn:=Tryz.f26) rfl
 have aS:Hid (∀(A:Act) (l:AU) (v:AW) (cs:List Nat),A.defers=[]->ResultsC prog Tryz.f26 A.tmps v->cs.length=ms.length->l.ownsRow Low 77 3 v (V8 f cs ms).flatten.length (Ph (V8 f cs ms).flatten)->Held Low w₀ (λ_=>False) l->
   Stop (G {(base 26).at A [.code .ret] with mode:=.returning} vJ) l):=bb
 have aM:Hid (∀cs:List Nat,cs.length=ms.length->(V8 f cs ms).flatten.length<=1000000):=aV;have aN:Hid (∀m∈ms,∀c,∀x∈f m c,Ar w₀ x.e.av x.e.ds):=aY;clear bb aV aY;have nS:=λO w h=>nR (Stop:=Stop) w₀ ms f aa cap aR bi aO hl O w h
 have uo:Hid (∀O w,Held Low w₀ O w->Ky prog (okR prog Low Stop) 61 #[.slice aa ms.length cap] [] O w λv x' J l=>∃cs:List Nat,cs.length=ms.length/\x'=List.zipWith (λc m=>(c,(f m c).map MI.val,false)) cs ms/\
   l.ownsRow Low 108 1 v ms.length (cs.map λc=>.chan (some c))/\(∀k,v.ownBlock=some k->J k)/\Held Low w₀ J l):=nS
 clear nS aR bi aO;obtain⟨nv,bg⟩:∃nv,nv=Value.slice aa ms.length cap:=⟨_,rfl⟩;rw[<-bg]at uo⊢;clear bg;refine mj (fn:=26) rfl DF ?_
 (refine Hf (Bl _ _ _) rfl Bn rfl (uo _ _ vG) CM ?_;rintro B _ O1 W1⟨cs,af,rfl,C,F,T⟩;try walk_nrm);clear uo;have⟨a2,ao,Z⟩:=VE C;rw[Z];refine kV ?_;rw[<-Z];clear Z a2 ao;rw[cS];have jh:Hid (∀r∈V8 f cs ms,∀x∈r,Ar w₀ x.e.av x.e.ds):=by intro r br x hx;obtain⟨i,hi,rfl⟩:=List.mem_iff_getElem.1 br;simp only[V8,List.getElem_zipWith]at hx;exact aN _ (DW _) _ x hx
 have aW:(V8 f cs ms).length=cs.length:=by simp[V8,af]
 have bv:=aM cs af
 have dB:Hid (∀(A:Act) (l:AU) (v:AW),A.defers=[]->ResultsC prog Tryz.f26 A.tmps v->l.ownsRow Low 77 3 v (V8 f cs ms).flatten.length (Ph (V8 f cs ms).flatten)->Held Low w₀ (λ_=>False) l->
   Stop (G {(base 26).at A [.code .ret] with mode:=.returning} vJ) l):=λA l v h1 h2 h3 h4=>aS A l v cs h1 h2 af h3 h4
 clear aS aM aN;generalize V8 f cs ms=bG at*;obtain⟨s,a8⟩:∃s,s=ms.length:=⟨_,rfl⟩;rw[<-a8]at C af⊢;have bz:s<=1000:=BS;clear a8 hl;refine jz (fn:=26) rfl DF ?_;refine kV ?_;refine Yr (Bl _ _ _) (λn A x' J l=>∃(i:Nat)(u u5 u6 a6 a3 aP a9 ay gB fZ kP aF aB aG ah:AW),i<=s/\n=s - i/\A=⟨#[U,undef,.slice none 0 0,u,undef,u5,u6,U,nv,B,.int .i64 s,.int .i64 i,a6,a3,aP,a9,ay,gB,fZ,kP,aF,aB,aG,ah,undef],[]⟩/\LSt cs (bG.map (·.map MI.val)) i (((bG[i]?).getD []).map MI.val) x'/\l.ownsRow Low 77 3 u ((bG.take i).flatten).length (Ph ((bG.take i).flatten))/\(∀k,u.ownBlock=some k->J k/\B.ownBlock≠some k)/\l.ownsRow Low 108 1 B s (cs.map λc=>.chan (some c))/\(∀k,B.ownBlock=some k->J k)/\Held Low w₀ J l) s
  ⟨0,.slice none 0 0,undef,undef,undef,undef,undef,undef,undef,undef,undef,undef,undef,undef,undef,undef,EI _,rfl,rfl,LSt.begin _ _ (by rw[DZ,aW]) _ (λaj H=>?_),BJ _ _ _ _,(λk g=>by cases g),C,F,T⟩ ?_
 .rw[OZ]at H;cases ad:bG[0]? with
  |none=>rw[ad]at H;cases H
  |some r0=>rw[ad]at H;cases H;rfl
 clear C F T O1 W1 vG;rintro n _ az O w⟨i,u,u5,u6,a6,a3,aP,a9,ay,gB,fZ,kP,aF,aB,aG,ah,hi,rfl,rfl,q,D,R,C,F,T⟩;by_cases bs:i<s
 .have bB:(i:Int)<(s:Int):=by omega
  have au:i<cs.length:=BS;have nX:i<bG.length:=BS;have⟨a2,ao,Z,_,aQ⟩:=Aub (Joins.ownsRow_le C (EI _));have⟨b,bm,aK,ag⟩:=aQ i (.chan (some cs[i])) (by rw[OZ,E7 au];rfl);subst bm;clear aQ;have ab:cs[i]?=some cs[i]:=E7 au;have gy:Hid (bG.take (i+1)=bG.take i++[bG[i]]):=take_snoc bG i nX;have aU:(bG[i]?).getD []=bG[i]:=by rw[E7 nX];rfl
  rw[aU]at q;have uf:Hid (∀x∈bG[i],Ar w₀ x.e.av x.e.ds):=jh _ (DW nX);have dN:Hid ((bG.take i).flatten.length+bG[i].length<=1000000):=by show _<=_;have h1:(bG.take (i+1)).flatten.length<=bG.flatten.length:=(by have:bG.flatten=(bG.take (i+1)).flatten++(bG.drop (i+1)).flatten:=(by rw[<-FY,KC]);rw[this,DT];omega);rw[gy.out,FY,DT]at h1;simp only[EN,M1,EW]at h1;omega
  have eF:Hid (∀aj,(bG.map (·.map MI.val))[i+1]?=some aj->aj=((bG[i+1]?).getD []).map MI.val):=by
   intro aj H;rw[OZ]at H;cases ad:bG[i+1]? with
   |none=>rw[ad]at H;cases H
   |some r0=>rw[ad]at H;cases H;rfl
  revert ag q ab gy uf dN
  generalize bG[i]=r;generalize cs[i]=c;intro q ag ab gy uf dN;have gZ:Hid (∀W,Keep Low O w W->W.cell? ⟨b,i,none⟩=some (.chan (some c))):=λW hW=>(BE (a:=⟨b,i,none⟩) (hW.mine _ (F b aK))).trans ag;have bu:=F b aK;have uh:Hid (B=.slice (some ⟨b,0,none⟩) s ao):=Z;clear ag aU au nX;rw[uh.out];have _Y:=gZ.out;refine kV ?_;clear _Y;rw[<-uh.out];clear aK uh bu Z gZ;have aL:Hid (IntKind.i64.wrap ((i:Int)+1)=((i+1:Nat):Int)):=by show _=_;rw[BK];omega
  refine Yr (Bl _ _ _) (λn A x' J l=>∃(k:Nat)(u v6 aA aH aI aD an aE ap:AW),k<=r.length/\n=r.length - k/\A=⟨#[U,undef,.slice none 0 0,u,undef,.chan (some c),v6,U,nv,B,.int .i64 s,.int .i64 i,.bool true,.pointer (some ⟨b,i,none⟩),.chan (some c),.chan (some c),aA,aH,aI,aD,an,aE,ap,ah,undef],[]⟩/\LSt cs (bG.map (·.map MI.val)) i ((r.drop k).map MI.val) x'/\l.ownsRow Low 77 3 u ((bG.take i).flatten++r.take k).length (Ph ((bG.take i).flatten++r.take k))/\(∀k,u.ownBlock=some k->J k/\B.ownBlock≠some k)/\l.ownsRow Low 108 1 B s (cs.map λc=>.chan (some c))/\(∀k,B.ownBlock=some k->J k)/\Held Low w₀ J l) r.length
   ⟨0,u,u6,ay,gB,fZ,kP,aF,aB,aG,EI _,rfl,rfl,by rwa[PG],by rwa[List.take_zero,EW],R,C,F,T⟩ ?_
  clear q D R C F T O w u az;rintro n _ az O w⟨k,u,v6,aA,aH,aI,aD,an,aE,ap,g,rfl,rfl,q,D,R,C,F,T⟩;have ak:Hid (∀d:AU,(execOp (Act.eval ⟨#[U,undef,.slice none 0 0,u,undef,.chan (some c),v6,U,nv,B,.int .i64 s,.int .i64 i,.bool true,.pointer (some ⟨b,i,none⟩),.chan (some c),.chan (some c),aA,aH,aI,aD,an,aE,ap,ah,undef],[]⟩) {dst:=some 16,op:=.recv 108 (.tmp 15) true,type:=0,pos:= "l7_way.go:13",after:=#[],guard:=none}).run prog d=.ok (.comm #[rcase c (.agg #[.int .i64 0,.int .i64 0,.slice none 0 0])] true (.recv true)) d):=by intro d;go_simp;rfl
  by_cases ar:k<r.length
  .have bh:r.drop k=r[k]::r.drop (k+1):=GH ar;have pO:Hid ((bG.take i).flatten++r.take (k+1)=((bG.take i).flatten++r.take k)++[r[k]]):=(by show _=_;rw[take_snoc r k ar,EG]);have aJ:=uf _ (DW ar);have rD:Hid (((bG.take i).flatten++r.take k).length+1<=1000000):=(by show _<=_;have h1:=dN.out;rw[DT,FN];omega);rw[bh]at q;clear bh
   revert q pO aJ
   generalize r[k]=m;intro q pO aJ;obtain⟨M,Q,bc,-⟩:=aJ;obtain⟨L,S,N,xa⟩:=m;dsimp only at bc;subst bc;rw[DX]at q;have ae:=q.2.2.1 c ab;repeat(first|(first|refine Lj (Bl _ _ _) ?_|refine Td (Bl _ _ _) ?_|refine Wl (Bl _ _ _) ?_|refine Tc (Bl _ _ _) ?_|refine Zw (Bl _ _ _) ?_|refine Wn (Bl _ _ _) ?_|refine Qp (Bl _ _ _) ?_)|(simp only[Wp,Np,if_true,EH,reduceIte,Nat.reduceEqDiff]))
   (refine Gq (Bl _ _ _) ?_;simp only[Db,DO,DU,Nat.reduceAdd,ED,List.range,List.range.loop]);(refine Z1 (j:=i) (c:=c) (z:=.agg #[.int .i64 0,.int .i64 0,.slice none 0 0]) rfl Bn ae ak (λd=>by simp[execOp]) ?_ (λh=>by cases h);intro v bo aT;obtain⟨rfl,rfl⟩:=List.cons.inj aT;clear aT ae ak;replace q:=q.recv ab;simp only[MI.val];try walk_nrm);refine kV ?_;have ax:=Dm.refl Low O w;refine Nz (Bl _ _ _) rfl Bn ?_ ?_;{intro _;simp[go_sem];done};intro d hR K hK;go_simp;refine hK _ _ ?_;clear hK K;have⟨O2,eO,E,V,I,al,X,ac⟩:=MN T hR #[.int .i64 0,.int .i64 0,.slice none 0 0] 77;rw[<-eO];clear eO
   revert E V I al X ac
   generalize d.alloc (.cells #[.int .i64 0,.int .i64 0,.slice none 0 0] 77)=W2;generalize d.heap.size=b2;intro E V I al X ac;replace E:=ax.trans E;replace X:∀x,O x->x≠b2:=λx hx=>X x (ax.own x hx);(clear hR d;try walk_nrm);refine X9 (Bl _ _ _) b2 I rfl Bn ?_ ?_
   .intro d hR e he;have y:=(hR.mine _ I).trans ac;have y0:d.cell? ⟨b2,0,none⟩=some (.int .i64 0):=cell_of_heap y 0;have z0:d.frozen? ⟨b2,0,none⟩=false:=frozen_of_heap y 0;have y1:d.cell? ⟨b2,1,none⟩=some (.int .i64 0):=cell_of_heap y 1;have z1:d.frozen? ⟨b2,1,none⟩=false:=frozen_of_heap y 1;have y2:d.cell? ⟨b2,2,none⟩=some (.slice none 0 0):=cell_of_heap y 2;have z2:d.frozen? ⟨b2,2,none⟩=false:=frozen_of_heap y 2;clear y;simp[go_sem,events_store_slice,storedEv, *]at he
    (first|(subst he;exact⟨_,_,rfl,.inl I⟩)|(rcases he with rfl|rfl<;>exact⟨_,_,rfl,.inl I⟩)|(rcases he with rfl|rfl|rfl|rfl<;>exact⟨_,_,rfl,.inl I⟩)|(rcases he with rfl|rfl|rfl|rfl|rfl|rfl<;>exact⟨_,_,rfl,.inl I⟩))
   (intro d hR K hK;have y:=(hR.mine _ I).trans ac;have y0:d.cell? ⟨b2,0,none⟩=some (.int .i64 0):=cell_of_heap y 0;have z0:d.frozen? ⟨b2,0,none⟩=false:=frozen_of_heap y 0;have y1:d.cell? ⟨b2,1,none⟩=some (.int .i64 0):=cell_of_heap y 1;have z1:d.frozen? ⟨b2,1,none⟩=false:=frozen_of_heap y 1;have y2:d.cell? ⟨b2,2,none⟩=some (.slice none 0 0):=cell_of_heap y 2;have z2:d.frozen? ⟨b2,2,none⟩=false:=frozen_of_heap y 2;clear y;go_simp;try(unfold stored;go_simp));have y:=(hR.mine _ I).trans ac;have hp:FO b2 d (((d.setCell ⟨b2,0,none⟩ (.int .i64 L)).setCell ⟨b2,1,none⟩ (.int .i64 S)).setCell ⟨b2,2,none⟩ (.slice M N.length Q)):=((((FO.refl _ _).set 0 (.int .i64 L)).set 1 (.int .i64 S)).set 2 (.slice M N.length Q));have ai:(((d.setCell ⟨b2,0,none⟩ (.int .i64 L)).setCell ⟨b2,1,none⟩ (.int .i64 S)).setCell ⟨b2,2,none⟩ (.slice M N.length Q)).heap[b2]?=some (.cells #[.int .i64 L,.int .i64 S,.slice M N.length Q] 77):=(heap_setCell (heap_setCell (heap_setCell y 0 (.int .i64 L)) 1 (.int .i64 S)) 2 (.slice M N.length Q));refine hK _ _ hp ?_;clear hK K y y0 z0 y1 z1 y2 z2 ac;replace E:=(E.rely hR).put hp al X;replace V:=(V.rely hR).put hp al
   revert E V ai
   clear hp hR;generalize (((d.setCell ⟨b2,0,none⟩ (.int .i64 L)).setCell ⟨b2,1,none⟩ (.int .i64 S)).setCell ⟨b2,2,none⟩ (.slice M N.length Q))=W2;intro ai E V;have bn:Hid (∀W,Keep Low O2 W2 W->∀ii,W.cell? ⟨b2,ii,none⟩=(#[.int .i64 L,.int .i64 S,.slice M N.length Q]:Array AW)[ii]?):=λW hW ii=>(hW.ext.cell (.inl I) ii).trans (cell_of_heap ai ii);(clear ai;try walk_nrm);replace D:=E.row D (λk g=>.inl (R k g).1);replace C:=E.row C (λk g=>.inl (F k g));have iw:Hid (some b2≠u.ownBlock):=λe=>X b2 (R b2 e.symm).1 rfl;have jE:∀k,u.ownBlock=some k->O2 k/\B.ownBlock≠some k:=λk g=>⟨E.own _ (R k g).1,(R k g).2⟩;have nJ:∀k,B.ownBlock=some k->O2 k:=λk g=>E.own _ (F k g);clear ax T R F E X O w;have _Y:=cs3 bn;refine kV ?_;clear _Y;refine Nz (Bl _ _ _) rfl Bn ?_ ?_;{intro W1;simp[go_sem];done};intro d hR K hK;go_simp;refine hK _ _ ?_;clear hK K;have⟨O4,eO,Y,lC,aw,aX,tN,pG⟩:=PI V hR (.cells #[.int .i64 L,.int .i64 S,.slice M N.length Q] 77);rw[<-eO];clear eO
   revert Y lC aw aX tN pG
   (generalize d.alloc (.cells #[.int .i64 L,.int .i64 S,.slice M N.length Q] 77)=W4;generalize d.heap.size=b4;intro Y lC aw aX tN pG;clear hR d;try walk_nrm);replace D:=Y.row D (λk g=>.inl (jE k g).1);replace C:=Y.row C (λk g=>.inl (nJ k g));have qN:∀k,u.ownBlock=some k->O4 k:=λk g=>Y.own _ (jE k g).1;have kJ:∀k,B.ownBlock=some k->O4 k:=λk g=>Y.own _ (nJ k g);have⟨i0,bf,aZ,a7,ba⟩:=info_parts QY;refine Wb (Bl _ _ _) rfl Bn (.tmp 19) (.tmp 21) 23 rfl 77 i0 (.agg #[.int .i64 0,.int .i64 0,.slice none 0 0]) 3 40 underlying23 bf aZ a7 ba rfl BZ u _ _ CM D qN b4 1 [.int .i64 L,.int .i64 S,.slice M N.length Q] CM rfl aw ?_ ?_ ?_ ?_ lC ?_;{intro jj bq hu;rw[cell_of_heap pG];simpa using hu};{intro bq hu;simp only[EK,FG,FH]at hu;rcases hu with rfl|rfl|rfl<;>rfl};{have:=rD.out;simp only[maxLen];omega};{have:=rD.out;omega};(clear bf aZ a7 ba i0;intro v5 W5 O5 bk oQ yN tK a5 kZ;try walk_nrm);have qy:W5.ownsRow Low 108 1 B s (cs.map λc=>.chan (some c)):=X8 C λk g=>a5 k (kJ k g) λe=>(jE k e.symm).2 g;have yJ:∀k,B.ownBlock=some k->O5 k:=λk g=>tK k (kJ k g)
   have yO:∀k,v5.ownBlock=some k->O5 k/\B.ownBlock≠some k:=λk g=>⟨oQ k g,λe=>by
    rcases yN k g with h|h
    .exact(jE k h.symm).2 e
    .exact h (kJ k e)⟩
   clear D C qN kJ jE nJ a5 tK oQ yN lC V pG Y tN;refine kV ?_;refine⟨r.length - (k+1),BS,k+1,v5,_,_,_,_,_,_,_,_,BS,rfl,rfl,q,?_,yO,qy,yJ,kZ⟩;rwa[pO.out,tn,DT]
  obtain rfl:k=r.length:=by omega
  rw[List.drop_length,FD]at q;rw[KA]at D;have ae:=q.2.2.1 c ab;repeat(first|(first|refine Lj (Bl _ _ _) ?_|refine Td (Bl _ _ _) ?_|refine Wl (Bl _ _ _) ?_|refine Tc (Bl _ _ _) ?_|refine Zw (Bl _ _ _) ?_|refine Wn (Bl _ _ _) ?_|refine Qp (Bl _ _ _) ?_)|(simp only[Wp,Np,if_true,EH,reduceIte,Nat.reduceEqDiff]))
  (refine Gq (Bl _ _ _) ?_;simp only[Db,DO,DU,Nat.reduceAdd,ED,List.range,List.range.loop]);refine Z1 (j:=i) (c:=c) (z:=.agg #[.int .i64 0,.int .i64 0,.slice none 0 0]) rfl Bn ae ak (λd=>by simp[execOp]) (λv bo h=>by cases h) ?_;intro _;clear ae ak;replace q:=q.done ab (by rw[DZ,aW]) _ eF.out;try walk_nrm
  have bA:=aL.out;clear aL;refine kV ?_;refine⟨s - (i+1),BS,i+1,u,_,_,_,_,_,_,_,_,_,_,_,_,_,_,BS,rfl,rfl,q,?_,R,C,F,T⟩;rw[gy.out,FY];simp only[EN,M1,EW];exact D
 have bw:¬(i:Int)<(s:Int):=by omega
 obtain rfl:i=s:=BS;have bj:∀e∈az,e.2.2=true:=λe he=>by have⟨t,ht⟩:=List.mem_iff_getElem?.1 he;exact q.1 t (by have:=(BO.1 ht).1;rw[q.2.1,af]at this;exact this) e ht
 rw[FB BS]at D;refine kV ?_;refine ME (Bl _ _ _) (fn:=26) rfl DF ?_;refine kV ?_;refine(Bl _ _ _).ctl rfl (g':=_) ?_ (λ_=>stepG_ret') ?_
 .rfl
 refine iH rfl bj λd hK=>dB _ d u rfl (bp _) ?_ ?_
 .exact hK.ext.row D λk g=>.inl (R k g).1
 have:=T.rely hK;exact⟨this.still,this.low,λ_ h=>h.elim,this.os,this.out⟩
