import Derived.Test.YtbfljjcnbbmoaaaGreatDoorCH2
import Derived.Test.YtbfljjcnbbmoaaaGreatDoorCI1
import Derived.Test.YtbfljjcnbbmoaaaGreatDoorCI3
import Derived.Test.YtbfljjcnbbmoaaaGreatDoorG3
import Derived.Test.YtbfljjcnbbmoaaaGreatDoorS30
namespace Go.Co
open Go.Conc
section
variable {τ : Type} {P : Program} {main : Bool} {Low : Nat} {pre : τ -> World -> Prop} {ok : τ -> (Nat -> Prop) -> World -> Goroutine -> Prop} {fn : FuncId} {a : Act} {x : τ} {O : Nat -> Prop} {w : World} {b : Frame} {k : List Item} {cs : List Frame}
theorem A0n {ops:Array Oper} {todo:List Nat} (hb:b.fn=fn) (hk:b.kind≠.early) (h:Rq ok fn ops todo (Tm (λa' x' O' w'=>ok x' O' w' (G (b.at a' k) cs)) (λ_ _ _ _ _=>False)) a x O w):ok x O w (G (b.at a (.inRegion ops todo::k)) cs):=by
 refine h b k cs hb hk λe a' x' O' w' q=>?_
 cases e with
 | normal=>exact q
 | _=>exact q.elim
theorem Axn {c:Code} (hb:b.fn=fn) (hk:b.kind≠.early) (h:WpK ok fn c (Tm (λa' x' O' w'=>ok x' O' w' (G (b.at a' k) cs)) (λ_ _ _ _ _=>False)) a x O w):ok x O w (G (b.at a (.code c::k)) cs):=by
 refine h b k cs hb hk λe a' x' O' w' q=>?_
 cases e with
 | normal=>exact q
 | _=>exact q.elim
end
def LSt (cs:List Nat) (vss:List (List Value)) (i:Nat) (rem:List Value) (L:List (Nat × List Value × Bool)):Prop:=
 (∀t,t<i->∀e,L[t]?=some e->e.2.2=true)/\L.length=cs.length/\(∀c,cs[i]?=some c->L[i]?=some (c,rem,false))/\∀t c vs,i<t->cs[t]?=some c->vss[t]?=some vs->L[t]?=some (c,vs,false)
theorem LSt.begin (cs:List Nat) (vss:List (List Value)) (hl:vss.length=cs.length) (rem:List Value) (hr:∀r,vss[0]?=some r->r=rem):LSt cs vss 0 rem (List.zipWith (λc vs=>(c,vs,false)) cs vss):=by
 refine⟨λt ht=>by omega,by simp[hl],λc hc=>?_,λt c vs _ hc hv=>?_⟩
 ·rw[List.getElem?_zipWith,hc]
  have h0:0<vss.length:=by have:=(List.getElem?_eq_some_iff.1 hc).1;omega
  rw[A4u h0];simp only;rw[hr _ (A4u h0)]
 ·rw[List.getElem?_zipWith,hc,hv]
theorem LSt.recv {cs:List Nat} {vss:List (List Value)} {i c:Nat} {v:Value} {rem:List Value} {L:List (Nat × List Value × Bool)} (h:LSt cs vss i (v::rem) L) (hc:cs[i]?=some c):LSt cs vss i rem (L.set i (c,rem,false)):=by
 have hi:i<L.length:=by rw[h.2.1];exact(List.getElem?_eq_some_iff.1 hc).1
 refine⟨λt ht e he=>h.1 t ht e ?_,by rw[List.length_set];exact h.2.1,λc' hc'=>?_,λt c' vs ht hc' hv=>?_⟩
 ·rw[A4n (by omega)] at he;exact he
 ·rw[hc] at hc';cases hc'
  rw[A42 hi]
 ·rw[A4n (by omega)];exact h.2.2.2 t c' vs ht hc' hv
theorem LSt.done {cs:List Nat} {vss:List (List Value)} {i c:Nat} {L:List (Nat × List Value × Bool)} (h:LSt cs vss i [] L) (hc:cs[i]?=some c) (hl:vss.length=cs.length) (rem:List Value) (hr:∀r,vss[i+1]?=some r->r=rem):LSt cs vss (i+1) rem (L.set i (c,[],true)):=by
 have hi:i<L.length:=by rw[h.2.1];exact(List.getElem?_eq_some_iff.1 hc).1
 refine⟨λt ht e he=>?_,by rw[List.length_set];exact h.2.1,λc' hc'=>?_,λt c' vs ht hc' hv=>?_⟩
 ·by_cases hti:t=i
  ·subst hti
   rw[A42 hi] at he;cases he;rfl
  ·rw[A4n (λe=>hti e.symm)] at he
   exact h.1 t (by omega) e he
 ·rw[A4n (by omega)]
  have hlt:i+1<vss.length:=by rw[hl];exact(List.getElem?_eq_some_iff.1 hc').1
  have hv:=A4u hlt;have:=h.2.2.2 (i+1) c' _ (by omega) hc' hv
  rw[this,hr _ hv]
 ·rw[A4n (by omega)]
  exact h.2.2.2 t c' vs (by omega) hc' hv
end Go.Co
namespace Go.Proofs.YtbfljjcnbbmoaaaGreatDoor
open Go.RowKit Go.Sort Go.BigFrame Go.Conc Go.Co
variable {Low : Nat} {Stop : Goroutine -> World -> Prop}
def Vu (f:Au->Nat->List MI) (cs:List Nat) (ms:List Au):List (List MI):=List.zipWith (λc m=>f m c) cs ms
theorem Amr (f:Au->Nat->List MI):∀(cs:List Nat) (ms:List Au),List.zipWith (λc m=>(c,(f m c).map MI.val,false)) cs ms=List.zipWith (λc vs=>(c,vs,false)) cs ((Vu f cs ms).map (·.map MI.val))
 | [],_=>by simp[Vu]
 | c::cs,[]=>by simp[Vu]
 | c::cs,m::ms=>by
  have:=Amr f cs ms
  simp only[Vu,List.zipWith_cons_cons,A4v] at this ⊢;rw[this]
set_option maxRecDepth 100000 in
set_option maxHeartbeats 8000000 in
theorem A1t (w₀:World) (ms:List Au) (f:Au->Nat->List MI) (aa:Option Addr) (cap:Nat) (hkc:∀i (h:i<ms.length),∃b o,aa=some ⟨b,o,none⟩/\b<Low/\Aah w₀ b (o+i*6) ms[i]) (hok:∀m∈ms,VOk Low w₀ m) (hgo:∀m∈ms,A3b Low w₀ m (f m)) (hl:ms.length<=1000)
  (hto:∀cs:List Nat,cs.length=ms.length->(Vu f cs ms).flatten.length<=1000000) (hEO:∀m∈ms,∀c,∀x∈f m c,EOk w₀ 0 x.e) (Oo:Nat->Prop) (wo:World) (hFo:Held Low w₀ Oo wo) (kv:Value) (fcs:List Frame)
  {c0 c1 blk tl:Code} {id:Nat} {ops:Array Oper} (hbody:Tryz.f8.body=some (.seq c0 (.seq c1 (.seq (.seq (.region id ops false) blk) (.seq tl .ret)))))
  (hstop:∀(a':Act) (w':World) (v:Value) (cs:List Nat),a'.defers=[]->ResultsC Tryz.prog Tryz.f8 a'.tmps v->cs.length=ms.length->w'.ownsRow Low 58 3 v (Vu f cs ms).flatten.length (Ep (Vu f cs ms).flatten)->Held Low w₀ (λ_=>False) w'->
   Stop (G {(base 8).at a' [.code .ret] with mode:=.returning} fcs) w'):
  okR Tryz.prog Low Stop [] Oo wo (G ((base 8).at ⟨#[kv,undef, .slice none 0 0, .slice none 0 0,undef,undef,undef,kv, .slice aa ms.length cap,undef,undef,undef,undef,undef,undef,undef,undef,undef,undef,undef,undef,undef,undef,undef,undef],[]⟩ [.inRegion ops [2,3,4], .code blk, .code (.seq tl .ret)]) fcs):=by
 unfold Tryz.f8 at hbody;dsimp only at hbody;cases hbody;have hres:=resultsC_tmp (P:=Tryz.prog) (fn:=Tryz.f8) rfl;have HST:=hid hstop;have HTO:=hid hto;have HEO:=hid hEO;clear hstop hto hEO;have HSTART:=λO w h=>A1s (Stop:=Stop) w₀ ms f aa cap hkc hok hgo hl O w h
 have HSA:=hid HSTART;clear HSTART hkc hok hgo;obtain⟨nv,hnv⟩:∃nv,nv=Value.slice aa ms.length cap:=⟨_,rfl⟩
 rw[<-hnv] at HSA ⊢;clear hnv;refine A0n (fn:=8) rfl (by simp[base]) ?_
 (refine F8 (Bj _ _ _) rfl (by rfl) rfl (HSA.out _ _ hFo) (by simp[Act.eval]) ?_;rintro sv _ O1 W1 ⟨cs,hcl,rfl,hSV,hSVO,hF1⟩;try walk_nrm)
 clear HSA;obtain⟨sa0,sc0,hsv⟩:=Af hSV;rw[hsv];refine kV ?_;rw[<-hsv];clear hsv sa0 sc0;rw[Amr];have HCE:Hid (∀vs∈Vu f cs ms,∀x∈vs,EOk w₀ 0 x.e):=by
  intro vs hvs x hx;obtain⟨i,hi,rfl⟩:=List.mem_iff_getElem.1 hvs;simp only[Vu,List.getElem_zipWith] at hx;exact HEO.out _ (A4k _) _ x hx
 have hvl:(Vu f cs ms).length=cs.length:=by simp[Vu,hcl]
 have hTo:=HTO.out cs hcl;have HST2:=hid (λa' w' v h1 h2 h3 h4=>HST.out a' w' v cs h1 h2 hcl h3 h4);clear HST HTO HEO;generalize Vu f cs ms=vss at*;obtain⟨n0,hn0⟩:∃n0,n0=ms.length:=⟨_,rfl⟩
 rw[<-hn0] at hSV hcl ⊢;have hn1:n0<=1000:=by omega
 clear hn0 hl;refine Axn (fn:=8) rfl (by simp[base]) ?_;refine kV ?_;refine V4 (Bj _ _ _) (λn a' x' O' w'=>∃(i:Nat) (lv u5 u6 u12 u13 u14 u15 u16 u17 u18 u19 u20 u21 u22 u23:Value),i<=n0/\n=n0 - i/\a'=⟨#[kv,undef, .slice none 0 0,lv,undef,u5,u6,kv,nv,sv, .int .i64 n0, .int .i64 i,u12,u13,u14,u15,u16,u17,u18,u19,u20,u21,u22,u23,undef],[]⟩/\LSt cs (vss.map (·.map MI.val)) i (((vss[i]?).getD []).map MI.val) x'/\w'.ownsRow Low 58 3 lv ((vss.take i).flatten).length (Ep ((vss.take i).flatten))/\(∀k,lv.ownBlock=some k->O' k/\sv.ownBlock≠some k)/\w'.ownsRow Low 62 1 sv n0 (cs.map λc=>.chan (some c))/\(∀k,sv.ownBlock=some k->O' k)/\Held Low w₀ O' w') n0
  ⟨0, .slice none 0 0,undef,undef,undef,undef,undef,undef,undef,undef,undef,undef,undef,undef,undef,undef,Nat.zero_le _,rfl,rfl,LSt.begin _ _ (by rw[A4t,hvl]) _ (λr hr=>?_),World.ownsRow_nil _ _ _ _,(λk hk=>by cases hk),hSV,hSVO,hF1⟩ ?_
 ·rw[List.getElem?_map] at hr
  cases hv0:vss[0]? with
  | none=>rw[hv0] at hr;cases hr
  | some r0=>rw[hv0] at hr;cases hr;rfl
 clear hSV hSVO hF1 O1 W1 hFo;rintro n _ L O w ⟨i,lv,u5,u6,u12,u13,u14,u15,u16,u17,u18,u19,u20,u21,u22,u23,hi,rfl,rfl,hL,hLV,hLVO,hSV,hSVO,hF1⟩;by_cases hlt:i<n0
 ·have hlt':(i:Int)<(n0:Int):=by omega
  have hic:i<cs.length:=by omega
  have hiv:i<vss.length:=by omega
  obtain⟨sa0,sc0,hsv,_,hsc⟩:=Pi (Joins.ownsRow_le hSV (Nat.zero_le _));obtain⟨b,hsa,hsb,hcell⟩:=hsc i (.chan (some cs[i])) (by rw[List.getElem?_map,A4u hic];rfl);subst hsa;clear hsc;have hcs:=A4u hic;have HVI:=hid (take_snoc vss i hiv);have hget:(vss[i]?).getD []=vss[i]:=by rw[A4u hiv];rfl
  rw[hget] at hL;have HVE:=hid (HCE.out _ (A4k hiv));have HLN:Hid ((vss.take i).flatten.length+vss[i].length<=1000000):=by
   show _<=_
   have h1:(vss.take (i+1)).flatten.length<=vss.flatten.length:=by
    have:vss.flatten=(vss.take (i+1)).flatten++(vss.drop (i+1)).flatten:=by rw[<-List.flatten_append,List.take_append_drop]
    rw[this,A4d];omega
   rw[HVI.out,List.flatten_append,A4d] at h1;simp only[List.flatten_cons,List.flatten_nil,List.append_nil] at h1;omega
  have HNX:Hid (∀r,(vss.map (·.map MI.val))[i+1]?=some r->r=((vss[i+1]?).getD []).map MI.val):=by
   intro r hr;rw[List.getElem?_map] at hr;cases hv0:vss[i+1]? with
   | none=>rw[hv0] at hr;cases hr
   | some r0=>rw[hv0] at hr;cases hr;rfl
  revert hcell hL hcs HVI HVE HLN
  generalize vss[i]=vs;generalize cs[i]=c;intro hL hcell hcs HVI HVE HLN;have HCN:=hid (λW (hW:Keep Low O w W)=>(World.cell?_of_block (a:=⟨b,i,none⟩) (hW.mine _ (hSVO b hsb))).trans hcell);have hbO:=hSVO b hsb;have HSV:=hid hsv;clear hcell hget hic hiv;rw[HSV.out];have _Y:=HCN.out;refine kV ?_;clear _Y;rw[<-HSV.out];clear hsb HSV hbO hsv HCN;have HWI:Hid (IntKind.i64.wrap ((i:Int)+1)=((i+1:Nat):Int)):=by show _=_;rw[IntKind.wrap_i64];omega
  refine V4 (Bj _ _ _) (λn a' x' O' w'=>∃(k:Nat) (lv v6 v16 v17 v18 v19 v20 v21 v22:Value),k<=vs.length/\n=vs.length - k/\a'=⟨#[kv,undef, .slice none 0 0,lv,undef, .chan (some c),v6,kv,nv,sv, .int .i64 n0, .int .i64 i, .bool true, .pointer (some ⟨b,i,none⟩), .chan (some c), .chan (some c),v16,v17,v18,v19,v20,v21,v22,u23,undef],[]⟩/\LSt cs (vss.map (·.map MI.val)) i ((vs.drop k).map MI.val) x'/\w'.ownsRow Low 58 3 lv ((vss.take i).flatten++vs.take k).length (Ep ((vss.take i).flatten++vs.take k))/\(∀k,lv.ownBlock=some k->O' k/\sv.ownBlock≠some k)/\w'.ownsRow Low 62 1 sv n0 (cs.map λc=>.chan (some c))/\(∀k,sv.ownBlock=some k->O' k)/\Held Low w₀ O' w') vs.length
   ⟨0,lv,u6,u16,u17,u18,u19,u20,u21,u22,Nat.zero_le _,rfl,rfl,by rw[List.drop_zero];exact hL,by rw[List.take_zero,List.append_nil];exact hLV,hLVO,hSV,hSVO,hF1⟩ ?_
  clear hL hLV hLVO hSV hSVO hF1 O w lv L;rintro n _ L O w ⟨k,lv,v6,v16,v17,v18,v19,v20,v21,v22,hk,rfl,rfl,hL,hLV,hLVO,hSV,hSVO,hF1⟩;have HRR:Hid (∀w₁:World,(execOp (Act.eval ⟨#[kv,undef, .slice none 0 0,lv,undef, .chan (some c),v6,kv,nv,sv, .int .i64 n0, .int .i64 i, .bool true, .pointer (some ⟨b,i,none⟩), .chan (some c), .chan (some c),v16,v17,v18,v19,v20,v21,v22,u23,undef],[]⟩) {dst:=some 16,op:=.recv 62 (.tmp 15) true,type:=0,pos:= "l7_way.go:13",after:=#[],guard:=none}).run Tryz.prog w₁=.ok (.comm #[rcase c (.agg #[.int .i64 0, .int .i64 0, .slice none 0 0])] true (.recv true)) w₁):=by
   intro w₁;go_simp;rfl
  by_cases hkl:k<vs.length
  ·have hdk:=List.drop_eq_getElem_cons hkl
   have HTK:Hid ((vss.take i).flatten++vs.take (k+1)=((vss.take i).flatten++vs.take k)++[vs[k]]):=by show _=_;rw[take_snoc vs k hkl,A41]
   have hEk:=HVE.out _ (A4k hkl);have HLK:Hid (((vss.take i).flatten++vs.take k).length+1<=1000000):=by
    show _<=_
    have h1:=HLN.out;rw[A4d,List.length_take];omega
   rw[hdk] at hL;clear hdk
   revert hL HTK hEk
   generalize vs[k]=m;intro hL HTK hEk;obtain⟨qa,sa,hva⟩:=Af hEk;clear hEk;obtain⟨xc,xo,xd,xa⟩:=m;dsimp only at hva;subst hva;rw[A4v] at hL;have hLi:=hL.2.2.1 c hcs;repeat (first | (first | refine Jb (Bj _ _ _) ?_ | refine Py (Bj _ _ _) ?_ | refine Ti (Bj _ _ _) ?_ | refine wpK_label (Bj _ _ _) ?_ | refine Xx (Bj _ _ _) ?_ | refine Tj (Bj _ _ _) ?_ | refine Nz (Bj _ _ _) ?_) | (simp only[Tm,J3,if_true,if_false,reduceIte,Nat.reduceEqDiff]))
   (refine Es (Bj _ _ _) ?_;simp only[A4g,A4e,A4f,Nat.reduceAdd,A4m,List.range,List.range.loop])
   refine Ah7 (j:=i) (c:=c) (z:=.agg #[.int .i64 0, .int .i64 0, .slice none 0 0]) rfl (by rfl) hLi HRR.out (λw₁=>by simp[execOp]) ?_ (λh=>by cases h);intro v vs' hvv;obtain⟨rfl,rfl⟩:=List.cons.inj hvv;clear hvv hLi HRR;replace hL:=hL.recv hcs;simp only[MI.val];try walk_nrm
   refine kV ?_;have hE1:=Ext.refl Low O w;refine J7 (Bj _ _ _) rfl (by rfl) ?_ ?_
   ·intro _;simp[go_sem];done
   intro w₁ hR K hK;go_simp;refine hK _ _ ?_;clear hK K;obtain⟨O2,eO,hE2,hF2,hO2,hL2,hN2,hH2⟩:=Ajw hF1 hR #[.int .i64 0, .int .i64 0, .slice none 0 0] 58;rw[<-eO];clear eO
   revert hE2 hF2 hO2 hL2 hN2 hH2
   generalize w₁.alloc (.cells #[.int .i64 0, .int .i64 0, .slice none 0 0] 58)=W2;generalize w₁.heap.size=b2;intro hE2 hF2 hO2 hL2 hN2 hH2;replace hE2:=hE1.trans hE2;replace hN2 :=λx hx=>hN2 x (hE1.own x hx)
   clear hR w₁;try walk_nrm
   refine Vh (Bj _ _ _) b2 hO2 rfl (by rfl) ?_ ?_
   ·intro w₁ hR e he
    have hh:=(hR.mine _ hO2).trans hH2;have y0:w₁.cell? ⟨b2,0,none⟩=some (.int .i64 0):=cell_of_heap hh 0;have z0:=frozen_of_heap hh 0;have y1:w₁.cell? ⟨b2,1,none⟩=some (.int .i64 0):=cell_of_heap hh 1;have z1:=frozen_of_heap hh 1;have y2:w₁.cell? ⟨b2,2,none⟩=some (.slice none 0 0):=cell_of_heap hh 2;have z2:=frozen_of_heap hh 2;clear hh;simp[go_sem,events_store_slice,storedEv, *] at he
    (first | (subst he;exact⟨_,_,rfl, .inl hO2⟩) | (rcases he with rfl | rfl<;>exact⟨_,_,rfl, .inl hO2⟩) | (rcases he with rfl | rfl | rfl | rfl<;>exact⟨_,_,rfl, .inl hO2⟩) | (rcases he with rfl | rfl | rfl | rfl | rfl | rfl<;>exact⟨_,_,rfl, .inl hO2⟩))
   intro w₁ hR K hK;have hh:=(hR.mine _ hO2).trans hH2;have y0:w₁.cell? ⟨b2,0,none⟩=some (.int .i64 0):=cell_of_heap hh 0;have z0:=frozen_of_heap hh 0;have y1:w₁.cell? ⟨b2,1,none⟩=some (.int .i64 0):=cell_of_heap hh 1;have z1:=frozen_of_heap hh 1;have y2:w₁.cell? ⟨b2,2,none⟩=some (.slice none 0 0):=cell_of_heap hh 2;have z2:=frozen_of_heap hh 2;clear hh;go_simp;try (unfold stored;go_simp)
   have hh:=(hR.mine _ hO2).trans hH2;have hp:Put b2 w₁ (((w₁.setCell ⟨b2,0,none⟩ (.int .i64 xc)).setCell ⟨b2,1,none⟩ (.int .i64 xo)).setCell ⟨b2,2,none⟩ (.slice qa xd.length sa)):=((((Put.refl _ _).set 0 (.int .i64 xc)).set 1 (.int .i64 xo)).set 2 (.slice qa xd.length sa))
   have hh2:(((w₁.setCell ⟨b2,0,none⟩ (.int .i64 xc)).setCell ⟨b2,1,none⟩ (.int .i64 xo)).setCell ⟨b2,2,none⟩ (.slice qa xd.length sa)).heap[b2]?=some (.cells #[.int .i64 xc, .int .i64 xo, .slice qa xd.length sa] 58):=(heap_setCell (heap_setCell (heap_setCell hh 0 (.int .i64 xc)) 1 (.int .i64 xo)) 2 (.slice qa xd.length sa))
   refine hK _ _ hp ?_;clear hK K hh y0 z0 y1 z1 y2 z2 hH2;replace hE2:=(hE2.rely hR).put hp hL2 hN2;replace hF2:=(hF2.rely hR).put hp hL2
   revert hE2 hF2 hh2
   clear hp hR;generalize (((w₁.setCell ⟨b2,0,none⟩ (.int .i64 xc)).setCell ⟨b2,1,none⟩ (.int .i64 xo)).setCell ⟨b2,2,none⟩ (.slice qa xd.length sa))=W2;intro hh2 hE2 hF2;have HC2:Hid (∀W,Keep Low O2 W2 W->∀ii,W.cell? ⟨b2,ii,none⟩=(#[.int .i64 xc, .int .i64 xo, .slice qa xd.length sa]:Array Value)[ii]?):=λW hW ii=>(hW.ext.cell (.inl hO2) ii).trans (cell_of_heap hh2 ii)
   clear hh2;try walk_nrm
   replace hLV:=hE2.row hLV (λk hk=>.inl (hLVO k hk).1);replace hSV:=hE2.row hSV (λk hk=>.inl (hSVO k hk));have HNL:Hid (some b2≠lv.ownBlock):=λe=>hN2 b2 (hLVO b2 e.symm).1 rfl
   have hLVO2:∀k,lv.ownBlock=some k->O2 k/\sv.ownBlock≠some k:=λk hk=>⟨hE2.own _ (hLVO k hk).1,(hLVO k hk).2⟩
   have hSVO2:=λk hk=>hE2.own _ (hSVO k hk)
   clear hE1 hF1 hLVO hSVO hE2 hN2 O w;have _Y:=cs3 HC2;refine kV ?_;clear _Y;refine J7 (Bj _ _ _) rfl (by rfl) ?_ ?_
   ·intro W1;simp[go_sem];done
   intro w₁ hR K hK;go_simp;refine hK _ _ ?_;clear hK K;obtain⟨O4,eO,hE4,hF4,hO4,hL4,hN4,hH4⟩:=Av8 hF2 hR (.cells #[.int .i64 xc, .int .i64 xo, .slice qa xd.length sa] 58);rw[<-eO];clear eO
   revert hE4 hF4 hO4 hL4 hN4 hH4
   generalize w₁.alloc (.cells #[.int .i64 xc, .int .i64 xo, .slice qa xd.length sa] 58)=W4;generalize w₁.heap.size=b4;intro hE4 hF4 hO4 hL4 hN4 hH4;clear hR w₁;try walk_nrm
   replace hLV:=hE4.row hLV (λk hk=>.inl (hLVO2 k hk).1);replace hSV:=hE4.row hSV (λk hk=>.inl (hSVO2 k hk));have hLVO4:=λk hk=>hE4.own _ (hLVO2 k hk).1
   have hSVO4:=λk hk=>hE4.own _ (hSVO2 k hk)
   obtain⟨i0,hti,hy0,hy1,hy2⟩:=info_parts Y7;refine Ace (Bj _ _ _) rfl (by rfl) (.tmp 19) (.tmp 21) 24 rfl 58 i0 (.agg #[.int .i64 0, .int .i64 0, .slice none 0 0]) 3 40 Tryz.underlying24 hti hy0 hy1 hy2 rfl (by decide) lv _ _ (by simp[Act.eval]) hLV hLVO4 b4 1 [.int .i64 xc, .int .i64 xo, .slice qa xd.length sa] (by simp[Act.eval]) rfl hO4 ?_ ?_ ?_ ?_ hF4 ?_
   ·intro jj u hu
    rw[cell_of_heap hH4];simpa using hu
   ·intro u hu
    simp only[A4y,List.not_mem_nil,or_false] at hu;rcases hu with rfl | rfl | rfl<;>rfl
   ·have:=HLK.out;simp only[maxLen];omega
   ·have:=HLK.out;omega
   clear hti hy0 hy1 hy2 i0;intro v5 W5 O5 hS5 hSO5 hSD5 hOO hsm hF5;try walk_nrm
   have hSV5:=Qv hSV λk hk=>hsm k (hSVO4 k hk) λe=>(hLVO2 k e.symm).2 hk
   have hSVO5:=λk hk=>hOO k (hSVO4 k hk)
   have hLVO5:∀k,v5.ownBlock=some k->O5 k/\sv.ownBlock≠some k:=λk hk=>⟨hSO5 k hk,λe=>by
    rcases hSD5 k hk with h | h
    ·exact(hLVO2 k h.symm).2 e
    ·exact h (hSVO4 k e)⟩
   clear hLV hSV hLVO4 hSVO4 hLVO2 hSVO2 hsm hOO hSO5 hSD5 hF4 hF2 hH4 hE4 hN4;refine kV ?_;refine⟨vs.length - (k+1),by omega,k+1,v5,_,_,_,_,_,_,_,_,by omega,rfl,rfl,hL,?_,hLVO5,hSV5,hSVO5,hF5⟩;rw[HTK.out,Aii,A4d];exact hS5
  ·obtain rfl:k=vs.length:=by omega
   rw[List.drop_length,List.map_nil] at hL;rw[List.take_length] at hLV;have hLi:=hL.2.2.1 c hcs;repeat (first | (first | refine Jb (Bj _ _ _) ?_ | refine Py (Bj _ _ _) ?_ | refine Ti (Bj _ _ _) ?_ | refine wpK_label (Bj _ _ _) ?_ | refine Xx (Bj _ _ _) ?_ | refine Tj (Bj _ _ _) ?_ | refine Nz (Bj _ _ _) ?_) | (simp only[Tm,J3,if_true,if_false,reduceIte,Nat.reduceEqDiff]))
   (refine Es (Bj _ _ _) ?_;simp only[A4g,A4e,A4f,Nat.reduceAdd,A4m,List.range,List.range.loop])
   refine Ah7 (j:=i) (c:=c) (z:=.agg #[.int .i64 0, .int .i64 0, .slice none 0 0]) rfl (by rfl) hLi HRR.out (λw₁=>by simp[execOp]) (λv vs' h=>by cases h) ?_;intro _;clear hLi HRR;replace hL:=hL.done hcs (by rw[A4t,hvl]) _ HNX.out;try walk_nrm
   have hwi:=HWI.out;clear HWI;refine kV ?_;refine⟨n0 - (i+1),by omega,i+1,lv,_,_,_,_,_,_,_,_,_,_,_,_,_,_,by omega,rfl,rfl,hL,?_,hLVO,hSV,hSVO,hF1⟩;rw[HVI.out,List.flatten_append];simp only[List.flatten_cons,List.flatten_nil,List.append_nil];exact hLV
 ·have hge:¬(i:Int)<(n0:Int):=by omega
  obtain rfl:i=n0:=by omega
  have hall:∀e∈L,e.2.2=true:=λe he=>by
   obtain⟨t,ht⟩:=List.mem_iff_getElem?.1 he;exact hL.1 t (by have:=(List.getElem?_eq_some_iff.1 ht).1;rw[hL.2.1,hcl] at this;exact this) e ht
  rw[A48 (by omega)] at hLV;refine kV ?_;refine Acf (Bj _ _ _) (fn:=8) rfl (by simp[base]) ?_;refine kV ?_;refine(Bj _ _ _).ctl rfl (g':=_) ?_ (λ_=>stepG_ret') ?_
  ·rfl
  refine Axl rfl hall λw₁ hK=>HST2.out _ w₁ lv rfl (hres _) ?_ ?_
  ·exact hK.ext.row hLV λk hk=>.inl (hLVO k hk).1
  ·have:=hF1.rely hK
   exact⟨this.still,this.low,λ_ h=>h.elim,this.os,this.out⟩
end Go.Proofs.YtbfljjcnbbmoaaaGreatDoor
namespace Go.Co
open Stil
open Go.Conc
section
variable {P : Program} {Stop : Goroutine -> World -> Prop} {w : World}
theorem Aym {g:Goroutine} (h:OkG g->Comes P g w Stop):Comes P g w Stop:=λgs sl t hF hg=>h hg gs sl t hF hg
end
end Go.Co
namespace Go.Proofs.YtbfljjcnbbmoaaaGreatDoor
open Stil
open Go.RowKit Go.Sort Go.BigFrame Go.Conc Go.Co
structure Blw (B:Nat) (w w':World):Prop where
 os:w'.os=w.os
 out:w'.output=w.output
 size:w.heap.size<=w'.heap.size
 block:∀k,k<B->w'.heap[k]?=w.heap[k]?
theorem Blw.trans {B:Nat} {a b c:World} (h:Blw B a b) (k:Blw B b c):Blw B a c:=⟨k.os.trans h.os,k.out.trans h.out,A4p h.size k.size,λi hi=>(k.block i hi).trans (h.block i hi)⟩
theorem Blw.of {B:Nat} {w w':World} (h:Below B w w'):Blw B w w':=⟨h.os,h.output,h.size,h.block⟩
theorem Blw.le {B B':Nat} {w w':World} (h:Blw B w w') (hb:B'<=B):Blw B' w w':=⟨h.os,h.out,h.size,λk hk=>h.block k (A4c hk hb)⟩
theorem Blw.tape {B:Nat} {w w':World} (h:Blw B w w') (d:Nat):Below B w {w' with tape:=w.tape,drawn:=d}:=⟨h.os,rfl,h.out,h.size,h.block⟩
def Tp (w w':World):Prop:=∃τ d,w'={w with tape:=τ,drawn:=d}
theorem Tp.refl (w:World):Tp w w:=⟨w.tape,w.drawn,rfl⟩
theorem Tp.al {w w1 w2:World} (h:Tp w w1) (k:Al (λx=>x=w1) w2):Tp w w2:=by
 obtain⟨τ,d,rfl⟩:=h;obtain⟨τ',d',h⟩:=k;refine⟨w2.tape,w2.drawn,?_⟩;have h1:=congrArg World.heap h;have h2:=congrArg World.os h;have h3:=congrArg World.output h;obtain⟨a,b,c,d,e⟩:=w2;simp only at h1 h2 h3;subst h1 h2 h3;rfl
theorem Avb (n:Stil.Net):Ar n=0->Ac2 n:=by
 refine Fg (λn=>Ar n=0->Ac2 n) ?_ n;intro k e kids ih h;rw[Anm];have hf:=(Afd _ _ _).1 (Stil.full_of _ h);refine⟨?_,hf.1,λx hx=>ih x hx (Qa h x hx)⟩;rcases H8 h with⟨h1,_⟩ | ⟨h1,_⟩ | ⟨h1,_⟩<;>omega
theorem A2p {n:Stil.Net} (h:Jn n) (hf:Cc n) (hs:Stil.nsz n<=400):Aut n:=by
 refine⟨(Df hf).2.1.2.1,?_,λx hx=>⟨?_,?_⟩⟩
 ·rcases h with h | h
  ·rw[Z5 h];exact Nat.zero_le _
  ·by_cases hn:Aq n=true
   ·rw[Z5 hn];exact Nat.zero_le _
   ·have e:Stil.nsz n=Aj n:=if_neg hn
    rw[e,Dz n] at hs;have:=Jl n.kids
    omega
 ·unfold Fv at hx
  split at hx
  ·cases hx
  ·rename_i hn
   have hfn:=h.resolve_left hn;split at hx
   ·exact Avb x (Qa hfn.2.2 x hx)
   ·rw[List.mem_singleton.1 hx];exact Avb n hfn.2.2
 ·have:=Aj0 n x hx
  omega
theorem A2t (a:Stil.Arm):Gg a->C9 a->A7 a<=400->Aed a:=by
 refine Fz (λa=>Gg a->C9 a->A7 a<=400->Aed a) ?_ a;intro n cs kids ih h1 h2 h3;obtain⟨_,hk⟩:=(Gt _ _ _).1 h1;obtain⟨_,_,_,_,hkf⟩:=(Ee _ _ _).1 h2;rw[Dp] at h3;have hl:=Rz kids;have hm:∀x∈kids,A7 x<=400:=λx hx=>by
  have:A7 x<=Hr kids:=Ew A7 kids x hx;omega
 rw[Ann];refine⟨by omega,by omega,λx hx=>?_,λx hx=>ih x hx (hk x hx) (hkf x hx) (hm x hx)⟩;have hs:=hm x hx;have h4:=hk x hx;have h5:=hkf x hx;obtain⟨xn,xc,xk⟩:=x;rw[Dp] at hs;exact A2p (n:=xn) ((Gt _ _ _).1 h4).1 ((Ee _ _ _).1 h5).1 (by omega)
def A12 (w:World) (base:Nat) (v:Value) (ms:List MI):Prop:=∃B,base<=B/\w.ownsRow B 58 3 v ms.length (Ep ms)/\(∀x∈ms,EOk w base x.e)/\(bl (ms.map (·.e.av))).Nodup/\∀k∈bl (ms.map (·.e.av)),base<=k/\k<B
theorem Ana:∀{vs:List Value},vs.Pairwise Aside->(bl vs).Nodup
 | [],_=>List.nodup_nil
 | v::vs,h=>by
  obtain⟨h1,h2⟩:=List.pairwise_cons.1 h;have ih:=Ana h2;unfold bl at*;rw[List.filterMap_cons];split
  ·exact ih
  ·rename_i k hk
   refine List.nodup_cons.2 ⟨λhm=>?_,ih⟩;obtain⟨u,hu,huk⟩:=List.mem_filterMap.1 hm;exact(h1 u hu).no hk huk
theorem Ao7 {w:World} {base e s n:Nat} {v:Value} {xs:List Value} (h:w.ownsRow 0 e s v n xs) (hb:∀k,v.ownBlock=some k->base<=k):w.ownsRow base e s v n xs:=by
 refine⟨h.1,?_⟩;rcases h.2 with hn | ⟨g,cap,cur,hv,_,rest⟩
 ·exact .inl hn
 ·exact .inr ⟨g,cap,cur,hv,hb g (by rw[hv];rfl),rest⟩
theorem Azz {w₀:World} {f:Au->Nat->List MI}:∀(cs:List Nat) (ms:List Au),cs.length=ms.length->(∀m∈ms,∀c,MIs w₀ m.vals (f m c) (Fb m.arm))->MIs w₀ (Fp ms) (Vu f cs ms).flatten ((ms.map Au.arm).map Fb).flatten
 | [],[],_,_=>MIs.nil
 | [],_::_,h,_=>by cases h
 | _::_,[],h,_=>by cases h
 | c::cs,m::ms,h,hm=>by
  have ih:=Azz cs ms (by simpa using h) λx hx=>hm x (by simp[hx])
  have e:Vu f (c::cs) (m::ms)=f m c::Vu f cs ms:=rfl;have e2:Fp (m::ms)=m.vals++Fp ms:=rfl;rw[e,e2,List.flatten_cons,A4v,A4v,List.flatten_cons];exact(hm m (by simp) c).append ih
set_option maxRecDepth 100000 in
set_option maxHeartbeats 4000000 in
theorem Ap6 (l:List Stil.Arm) (kv:Value) (w:World) (hr:Eu w) (hg:F6 w) (hkv:Dv w kv l) (hl:l.length<=1048576) (hsz:Bh l<=1000000000) (hft:∀x∈l,C9 x):
  Vz Tryz.prog 8 #[kv] w λv w'=>∃ms:List MI,ms.map MI.inst=Kq l/\A12 w' w.heap.size v ms/\Blw w.heap.size w w':=by
 intro fr cs Stop hn;have hbody:∃c0 c1 blk tl id ops,Tryz.f8.body=some (.seq c0 (.seq c1 (.seq (.seq (.region id ops false) blk) (.seq tl .ret)))):=⟨_,_,_,_,_,_,rfl⟩
 obtain⟨c0,c1,blk,tl,id,ops,hbody⟩:=hbody;refine Aym λhok=>?_
 have hcs:∀c∈fr::cs,Yk c:=hok.2;clear hok;rw[Go.Co.enter_at #[kv] Tryz.func8 hbody];simp only[Tryz.ntmps8,A4g,A4e,A4f,Nat.reduceAdd,Nat.reduceSub,A46,A47,A5c,A49,A44,A43];have hp0:∀(v:Value) (w':World) (τ:Tape) (d:Nat),(∃(a:Option Addr) (c:Nat) (ms:List Au),v=.slice a ms.length c/\ms.map Au.arm=Bq l/\Na {w' with tape:=τ,drawn:=d} w.heap.size (.slice a ms.length c) ms/\Blw w.heap.size w {w' with tape:=τ,drawn:=d})->
   ∃(a:Option Addr) (c:Nat) (ms:List Au),v=.slice a ms.length c/\ms.map Au.arm=Bq l/\Na w' w.heap.size (.slice a ms.length c) ms/\Blw w.heap.size w w':=by
  rintro v w' τ d ⟨a,c,ms,h1,h2,h3,h4⟩;have e:Na {w' with tape:=τ,drawn:=d} w.heap.size (.slice a ms.length c) ms=Na w' w.heap.size (.slice a ms.length c) ms:=by kernel_rfl
  exact⟨a,c,ms,h1,h2,e ▸ h3,h4.os,h4.out,h4.size,h4.block⟩
 have HNM:∀W,Tp w W->Vz Tryz.prog 22 #[kv] W λv w'=>∃(a:Option Addr) (c:Nat) (ms:List Au),v=.slice a ms.length c/\ms.map Au.arm=Bq l/\Na w' w.heap.size (.slice a ms.length c) ms/\Blw w.heap.size w w':=by
  rintro _ ⟨τ0,d0,rfl⟩;refine(Adi okP (Post:=λv w'=>∃(a:Option Addr) (c:Nat) (ms:List Au),v=.slice a ms.length c/\ms.map Au.arm=Bq l/\Na w' w.heap.size (.slice a ms.length c) ms/\Blw w.heap.size w w') fun τ d=>?_).mono λv w' ⟨τ,d,h⟩=>hp0 v w' τ d h
  have e1:Eu {w with tape:=τ,drawn:=d}=Eu w:=by kernel_rfl
  have e2:F6 {w with tape:=τ,drawn:=d}=F6 w:=by kernel_rfl
  have e3:Dv {w with tape:=τ,drawn:=d} kv l=Dv w kv l:=by kernel_rfl
  refine(Ap7 l kv {w with tape:=τ,drawn:=d} (e1 ▸ hr) (e2 ▸ hg) (e3 ▸ hkv) hl hsz hft).mono λe w' h=>?_
  obtain⟨⟨a,c,ms,rfl,h1,h2⟩,hb⟩:=h;exact⟨_,rfl,a,c,ms,rfl,h1,h2,hb.os,hb.output,hb.size,hb.block⟩
 have HCP:=λ(Low:Nat) (w₀:World) (ms:List Au) (f:Au->Nat->List MI) (aa:Option Addr) (cap:Nat) (Stop:Goroutine->World->Prop) h1 h2 h3 h4 h5 h6 wo h7 fcs hst=>A1t (Low:=Low) (Stop:=Stop) w₀ ms f aa cap h1 h2 h3 h4 h5 h6 (λ_=>False) wo h7 kv fcs hbody hst
 have hbody2:=hbody;unfold Tryz.f8 at hbody2;dsimp only at hbody2;cases hbody2;refine Sv okP λw1 h=>?_
 have t1:=(Tp.refl w).al h;refine Om okP λw2 h=>?_
 have t2:=t1.al h;simp only[A4g,A4e,A4f,A4m,List.range,List.range.loop];refine Np okP rfl (by rfl) (by simp[base]) (v:=.slice none 0 0) (λ_=>by go_simp) (λ_=>by simp[go_sem]) λw3 h=>?_
 have t3:=t2.al h;refine Zh okP λw4 h=>?_
 have t4:=t3.al h;refine Sv okP λw5 h=>?_
 have t5:=t4.al h;refine Om okP λw6 h=>?_
 have t6:=t5.al h;simp only[A4g,A4e,A4f,A4m,List.range,List.range.loop];refine Np okP rfl (by rfl) (by simp[base]) (v:=.slice none 0 0) (λ_=>by go_simp) (λ_=>by simp[go_sem]) λw7 h=>?_
 have t7:=t6.al h;refine Zh okP λw8 h=>?_
 have t8:=t7.al h;refine Sv okP λw9 h=>?_
 have t9:=t8.al h;refine Sv okP λw10 h=>?_
 have t10:=t9.al h;refine Om okP λw11 h=>?_
 have t11:=t10.al h;simp only[A4g,A4e,A4f,Nat.reduceAdd,A4m,List.range,List.range.loop];refine Np okP rfl (by rfl) (by simp[base]) (v:=kv) (λ_=>by go_simp) (λ_=>by simp[go_sem]) λw12 h=>?_
 have t12:=t11.al h;clear t1 t2 t3 t4 t5 t6 t7 t8 t9 t10 t11 h;refine Ws okP rfl (by rfl) (by simp[base]) rfl Tryz.func22 rfl (vals:=#[kv]) (by simp[Act.eval,Act.put]) (λw' h=>HNM w' (t12.al h)) λv W1 hp=>?_
 clear HNM hp0 t12;obtain⟨aa,cap,ms,rfl,hms,hrow,hbl⟩:=hp;have hrow0:=Joins.ownsRow_le hrow.1 (Nat.zero_le _);have hVOk:∀m∈ms,VOk W1.heap.size W1 m:=λm hm=>⟨(hrow.2.1 m hm).le (Nat.zero_le _),λx hx k hk=>((hrow.2.1 m hm).lt m x hx k hk).2⟩
 have hfits:=Tv hft;have hrungs:∀m∈ms,Aed m.arm/\Ac2 m.net.net/\Aj m.net.net<=1000000:=λm hm=>by
  have hmem:m.arm∈Bq l:=by rw[<-hms];exact List.mem_map_of_mem hm
  by_cases h0:(Ce l).1=0
  ·obtain⟨hR,_,_⟩:=V8 hft h0
   have hr1:=hR _ hmem;have hnet:m.arm.net=m.net.net:=by rw[Au.arm_eq]
   have h1:=hr1.net;rw[hnet] at h1;refine⟨A2t _ hr1.fineA (hfits.1 _ hmem) hr1.size,Avb _ h1.2.2,?_⟩;have hs:=hr1.size;have e:m.arm=⟨m.arm.net,m.arm.coils,m.arm.kids⟩:=by generalize m.arm=x;cases x;rfl
   rw[e,Dp,hnet] at hs;have:=Stil.size_le m.net.net
   omega
  ·rw[show Bq l=[] by unfold Bq;rw[if_neg h0]] at hmem
   cases hmem
 obtain⟨f,hf⟩:∃f:Au->Nat->List MI,∀m∈ms,∀c,MIs W1 m.vals (f m c) (Fb m.arm)/\∀w O,Held W1.heap.size W1 O w->okS Tryz.prog W1.heap.size c ((f m c).map MI.val) O w (born Tryz.prog (dcall 43 #[.chan (some c), .agg #[.int .i64 m.net.kind, .int .i64 m.net.op,m.net.av,m.net.kv,m.cv,m.kv]])):=by
  classical
  refine⟨λm c=>if h:∃vs,MIs W1 m.vals vs (Fb m.arm)/\∀w O,Held W1.heap.size W1 O w->okS Tryz.prog W1.heap.size c (vs.map MI.val) O w (born Tryz.prog (dcall 43 #[.chan (some c), .agg #[.int .i64 m.net.kind, .int .i64 m.net.op,m.net.av,m.net.kv,m.cv,m.kv]])) then h.choose else [],λm hm c=>?_⟩;have h:=A24 (c:=c) W1 m (hrungs m hm).1 (hrungs m hm).2.1 (hrungs m hm).2.2 (hVOk m hm);simp only[h,dite_true];exact h.choose_spec
 have hwp:Kq l=((ms.map Au.arm).map Fb).flatten:=by unfold Kq;rw[hms]
 have hiv:=λ(cs:List Nat) (h:cs.length=ms.length)=>Azz (w₀:=W1) (f:=f) cs ms h λm hm c=>(hf m hm c).1
 have hlen:ms.length<=40:=by have:=hfits.2.2;rw[<-hms,A4t] at this;exact this
 refine Comes.then (S:=λg' w'=>(∃(a':Act) (v:Value),g'=G {(base 8).at a' [.code .ret] with mode:=.returning} (fr::cs)/\a'.defers=[]/\ResultsC Tryz.prog Tryz.f8 a'.tmps v/\∃ms:List MI,ms.map MI.inst=Kq l/\A12 w' w.heap.size v ms/\Blw w.heap.size w w')/\OkG g') ?_ ?_
 ·refine Aji (Low:=W1.heap.size) (O:=λ_=>False) (λ_ h=>h.elim) (A4i _) (λg w h=>h.2) ?_
  refine HCP W1.heap.size W1 ms f aa cap _ (λi hi=>?_) hVOk (λm hm c w O hF=>(hf m hm c).2 w O hF) (by omega) (λcs' hc'=>?_) (λm hm c x hx=>(hf m hm c).1.2.1 x hx) W1 ⟨λ_ _=>rfl,A4i _,λ_ h=>h.elim,rfl,rfl⟩ (fr::cs) ?_
  ·obtain⟨a',cap',e,_,hc⟩:=Pi hrow0
   cases e;obtain⟨g0,g1,g2,g3,g4,g5⟩:=Ll ms i hi;obtain⟨b,ha,hb,c0⟩:=hc _ _ g0;obtain⟨b1,ha1,_,c1⟩:=hc _ _ g1;obtain⟨b2,ha2,_,c2⟩:=hc _ _ g2;obtain⟨b3,ha3,_,c3⟩:=hc _ _ g3;obtain⟨b4,ha4,_,c4⟩:=hc _ _ g4;obtain⟨b5,ha5,_,c5⟩:=hc _ _ g5;rw[ha] at ha1 ha2 ha3 ha4 ha5;cases ha1;cases ha2;cases ha3;cases ha4;cases ha5;refine⟨b,0,ha,(hrow.1.lt b hb).2,?_⟩;unfold Aah U9;rw[A4m];exact⟨⟨c0,c1,c2,c3⟩,c4,c5⟩
  ·have h1:=congrArg List.length (hiv cs' hc').1
   rw[A4t,<-hwp] at h1;rw[h1];have:=X0 hft
   omega
  ·intro a' w' v cs' hd hres hc' hown hF
   have hI:=hiv cs' hc';have hsame:=hF.still;have hlt:∀k∈bl (((Vu f cs' ms).flatten).map (·.e.av)),w.heap.size<=k/\k<W1.heap.size:=λk hk=>by
    have hk2:=hI.2.2.subset hk;obtain⟨u,hu,huk⟩:=List.mem_filterMap.1 hk2;obtain⟨m,hm,hum⟩:=Ie.1 hu;exact(hrow.2.1 m hm).lt m u hum k huk
   have hinst:=hI.1.trans hwp.symm;have hnd:=(Ana (List.pairwise_cons.1 hrow.2.2).2).sublist hI.2.2;have hEE:=hI.2.1;clear hI
   revert hown hlt hinst hnd hEE
   generalize (Vu f cs' ms).flatten=L;intro hown hlt hinst hnd hEE;have hOw:A12 w' w.heap.size v L:=by
    refine⟨W1.heap.size,hbl.size,hown,λx hx=>?_,hnd,hlt⟩;have hin:=λk hk=>hlt k (List.mem_filterMap.2 ⟨x.e.av,List.mem_map_of_mem (f:=λy:MI=>y.e.av) hx,hk⟩)
    exact Ao7 (Qv (hEE x hx) λk hk=>hsame k (hin k hk).2) λk hk=>(hin k hk).1
   have hBl:Blw w.heap.size w w':=⟨hF.os.trans hbl.os,hF.out.trans hbl.out,A4p hbl.size hF.low,λk hk=>(hF.still k (A4c hk hbl.size)).trans (hbl.block k hk)⟩
   have hOk:OkG (G {(base 8).at a' [.code .ret] with mode:=.returning} (fr::cs)):=by
    refine⟨λi hi=>?_,hcs⟩;have :=List.mem_singleton.1 hi;rw[this];trivial
   exact⟨⟨a',v,rfl,hd,hres,L,hinst,hOw,hBl⟩,hOk⟩
 ·rintro g' w' _ ⟨⟨a',v,rfl,hd,hres,ms',hi,hO,hB⟩,_⟩
  refine S9 okP (fr':=fr.finish v) (cs':=cs) (λw₁=>?_) λw'' h=>?_
  ·exact stepG_leave (b:=base 8) rfl hd Tryz.func8 (hres w₁).1 (hres w₁).2
  ·obtain⟨τ,d,rfl⟩:=(Tp.refl w').al h
   have e:A12 {w' with tape:=τ,drawn:=d} w.heap.size v ms'=A12 w' w.heap.size v ms':=by kernel_rfl
   exact hn v _ ⟨ms',hi,e ▸ hO,hB.os,hB.out,hB.size,hB.block⟩
end Go.Proofs.YtbfljjcnbbmoaaaGreatDoor
