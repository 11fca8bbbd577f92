import Derived.Test.YtbfljjcnbbmoaaaGreatDoorCH2
import Derived.Test.YtbfljjcnbbmoaaaGreatDoorCI1
import Derived.Test.YtbfljjcnbbmoaaaGreatDoorM56
import Derived.Test.YtbfljjcnbbmoaaaGreatDoorG1
namespace Go.Co
open Go.Conc
section
variable {τ : Type}{P : Program}{main : Bool}{Low : Nat}{pre : τ -> World -> Prop}{ok : τ -> (Nat -> Prop) -> World -> Goroutine -> Prop}{fn : FuncId}{a : Act}{x : τ}{O : Nat -> Prop}{w : World}{b : Frame}{k : List Item}{cs : List Frame}
theorem A0t {ops:Array Oper}{todo:List Nat}(hb:b.fn=fn)(hk:b.kind≠.early)(h:Tj ok fn ops todo (Uo (λa' x' O' w'=>ok x' O' w' (G (b.at a' k) cs)) (λ_ _ _ _ _=>False)) a x O w):ok x O w (G (b.at a (.inRegion ops todo::k)) cs):=by
 refine h b k cs hb hk λe a' x' O' w' q=>?_
 cases e with
 | normal=>exact q
 | _=>exact q.elim
theorem Ax4 {c:Code}(hb:b.fn=fn)(hk:b.kind≠.early)(h:WpK ok fn c (Uo (λa' x' O' w'=>ok x' O' w' (G (b.at a' k) cs)) (λ_ _ _ _ _=>False)) a x O w):ok x O w (G (b.at a (.code c::k)) cs):=by
 refine h b k cs hb hk λe a' x' O' w' q=>?_
 cases e with
 | normal=>exact q
 | _=>exact q.elim
end
variable {c i:Nat}{cs:List Nat}
def LSt (cs:List Nat)(bI:List (List Value))(i:Nat)(rem:List Value)(L:List (Nat × List Value × Bool)):Prop:=
 (∀t,t<i->∀e,L[t]?=some e->e.2.2=true)/\L.length=cs.length/\(∀c,cs[i]?=some c->L[i]?=some (c,rem,false))/\∀t c vs,i<t->cs[t]?=some c->bI[t]?=some vs->L[t]?=some (c,vs,false)
theorem LSt.begin (cs:List Nat)(bI:List (List Value))(hl:bI.length=cs.length)(rem:List Value)(hr:∀r,bI[0]?=some r->r=rem):LSt cs bI 0 rem (List.zipWith (λc vs=>(c,vs,false)) cs bI):=by
 refine⟨λt ht=>by omega,by simp[hl],λc hc=>?_,λt c vs _ hc hv=>?_⟩
 ·rw[List.getElem?_zipWith,hc]
  have h0:0<bI.length:=by have:=(List.getElem?_eq_some_iff.1 hc).1;omega
  rw[A4p h0];simp only;rw[hr _ (A4p h0)]
 ·rw[List.getElem?_zipWith,hc,hv]
theorem LSt.recv {bI:List (List Value)}{v:Value}{rem:List Value}{L:List (Nat × List Value × Bool)}(h:LSt cs bI i (v::rem) L)(hc:cs[i]?=some c):LSt cs bI i rem (L.set i (c,rem,false)):=by
 have hi:i<L.length:=by rw[h.2.1];exact(List.getElem?_eq_some_iff.1 hc).1
 refine⟨λt ht e he=>h.1 t ht e ?_,by rw[List.length_set];exact h.2.1,λc' hc'=>?_,λt c' vs ht hc' hv=>?_⟩
 ·rw[A4i omz] at he;exact he
 ·rw[hc] at hc';cases hc'
  rw[A4x hi]
 ·rw[A4i omz];exact h.2.2.2 t c' vs ht hc' hv
theorem LSt.done {bI:List (List Value)}{L:List (Nat × List Value × Bool)}(h:LSt cs bI i [] L)(hc:cs[i]?=some c)(hl:bI.length=cs.length)(rem:List Value)(hr:∀r,bI[i+1]?=some r->r=rem):LSt cs bI (i+1) rem (L.set i (c,[],true)):=by
 have hi:i<L.length:=by rw[h.2.1];exact(List.getElem?_eq_some_iff.1 hc).1
 refine⟨λt ht e he=>?_,by rw[List.length_set];exact h.2.1,λc' hc'=>?_,λt c' vs ht hc' hv=>?_⟩
 ·by_cases hti:t=i
  ·subst hti
   rw[A4x hi] at he;cases he;rfl
  ·rw[A4i (λe=>hti e.symm)] at he
   exact h.1 t omz e he
 ·rw[A4i omz]
  have hlt:i+1<bI.length:=by rw[hl];exact(List.getElem?_eq_some_iff.1 hc').1
  have hv:=A4p hlt;have:=h.2.2.2 (i+1) c' _ omz hc' hv
  rw[this,hr _ hv]
 ·rw[A4i omz]
  exact h.2.2.2 t c' vs omz hc' hv
end Go.Co
namespace Go.Proofs.YtbfljjcnbbmoaaaGreatDoor
open Go.RowKit Go.Sort Go.BigFrame Go.Conc Go.Co
variable {Low : Nat}{Stop : Goroutine -> World -> Prop}
def Wv (f:Aw->Nat->List MI)(cs:List Nat)(ms:List Aw):List (List MI):=List.zipWith (λc m=>f m c) cs ms
theorem Anf (f:Aw->Nat->List MI):∀(cs:List Nat) (ms:List Aw),List.zipWith (λc m=>(c,(f m c).map MI.val,false)) cs ms=List.zipWith (λc vs=>(c,vs,false)) cs ((Wv f cs ms).map (·.map MI.val))
 | [],_=>by simp[Wv]
 | c::cs,[]=>by simp[Wv]
 | c::cs,m::ms=>by
  have:=Anf f cs ms
  simp only[Wv,List.zipWith_cons_cons,A4q] at this ⊢;rw[this]
set_option maxRecDepth 100000 in
set_option maxHeartbeats 8000000 in
theorem A1v (w₀:World)(ms:List Aw)(f:Aw->Nat->List MI)(aa:Option Addr)(cap:Nat)(hkc:∀i (h:i<ms.length),∃b o,aa=some ⟨b,o,none⟩/\b<Low/\Afd w₀ b (o+i*6) ms[i])(hok:∀m∈ms,VOk Low w₀ m)(hgo:∀m∈ms,A29 Low w₀ m (f m))(hl:ms.length<=1000)
  (hto:∀cs:List Nat,cs.length=ms.length->(Wv f cs ms).flatten.length<=1000000) (hEO:∀m∈ms,∀c,∀x∈f m c,EOk w₀ 0 x.e) (Oo:Nat->Prop) (wo:World) (xI:Held Low w₀ Oo wo) (kv:Value) (pg:List Frame)
  {c0 c1 blk tl:Code} {id:Nat} {ops:Array Oper} (hbody:Tryz.f8.body=some (.seq c0 (.seq c1 (.seq (.seq (.region id ops false) blk) (.seq tl .ret)))))
  (hstop:∀(a':Act) (w':World) (v:Value) (cs:List Nat),a'.defers=[]->ResultsC Tryz.prog Tryz.f8 a'.tmps v->cs.length=ms.length->w'.ownsRow Low 58 3 v (Wv f cs ms).flatten.length (Fa (Wv f cs ms).flatten)->Held Low w₀ (λ_=>False) w'->
   Stop (G {(base 8).at a' [.code .ret] with mode:=.returning} pg) w'):
  okR Tryz.prog Low Stop [] Oo wo (G ((base 8).at ⟨#[kv,undef, .slice none 0 0, .slice none 0 0,undef,undef,undef,kv, .slice aa ms.length cap,undef,undef,undef,undef,undef,undef,undef,undef,undef,undef,undef,undef,undef,undef,undef,undef],[]⟩ [.inRegion ops [2,3,4], .code blk, .code (.seq tl .ret)]) pg):=by
 unfold Tryz.f8 at hbody;dsimp only at hbody;cases hbody;have hres:=resultsC_tmp (P:=Tryz.prog) (fn:=Tryz.f8) rfl;have HST:=hid hstop;have HTO:=hid hto;have HEO:=hid hEO;clear hstop hto hEO;have oM:=λO w h=>A1u (Stop:=Stop) w₀ ms f aa cap hkc hok hgo hl O w h
 have HSA:=hid oM;clear oM hkc hok hgo;obtain⟨nv,hnv⟩:∃nv,nv=Value.slice aa ms.length cap:=⟨_,rfl⟩
 rw[<-hnv] at HSA ⊢;clear hnv;refine A0t (fn:=8) rfl (by simp[base]) ?_
 (refine Gl (Bl _ _ _) rfl rrz rfl (HSA _ _ xI) (by simp[Act.eval]) ?_;rintro sv _ O1 W1 ⟨cs,hcl,rfl,jT,dV,hF1⟩;try walk_nrm)
 clear HSA;obtain⟨sa0,sc0,hsv⟩:=Af jT;rw[hsv];refine kV ?_;rw[<-hsv];clear hsv sa0 sc0;rw[Anf];have jv:Hid (∀vs∈Wv f cs ms,∀x∈vs,EOk w₀ 0 x.e):=by
  intro vs hvs x hx;obtain⟨i,hi,rfl⟩:=List.mem_iff_getElem.1 hvs;simp only[Wv,List.getElem_zipWith] at hx;exact HEO _ (A4f _) _ x hx
 have hvl:(Wv f cs ms).length=cs.length:=by simp[Wv,hcl]
 have hTo:=HTO cs hcl;have HST2:=hid (λa' w' v h1 h2 h3 h4=>HST a' w' v cs h1 h2 hcl h3 h4);clear HST HTO HEO;generalize Wv f cs ms=bI at*;obtain⟨n0,hn0⟩:∃n0,n0=ms.length:=⟨_,rfl⟩
 rw[<-hn0] at jT hcl ⊢;have hn1:n0<=1000:=omz
 clear hn0 hl;refine Ax4 (fn:=8) rfl (by simp[base]) ?_;refine kV ?_;refine Xb (Bl _ _ _) (λn a' x' O' w'=>∃(i:Nat) (lv u5 u6 u12 u13 u14 u15 u16 iF iE mM u20 u21 u22 u23:Value),i<=n0/\n=n0 - i/\a'=⟨#[kv,undef, .slice none 0 0,lv,undef,u5,u6,kv,nv,sv, .int .i64 n0, .int .i64 i,u12,u13,u14,u15,u16,iF,iE,mM,u20,u21,u22,u23,undef],[]⟩/\LSt cs (bI.map (·.map MI.val)) i (((bI[i]?).getD []).map MI.val) x'/\w'.ownsRow Low 58 3 lv ((bI.take i).flatten).length (Fa ((bI.take i).flatten))/\(∀k,lv.ownBlock=some k->O' k/\sv.ownBlock≠some k)/\w'.ownsRow Low 62 1 sv n0 (cs.map λc=>.chan (some c))/\(∀k,sv.ownBlock=some k->O' k)/\Held Low w₀ O' w') n0
  ⟨0, .slice none 0 0,undef,undef,undef,undef,undef,undef,undef,undef,undef,undef,undef,undef,undef,undef,Nat.zero_le _,rfl,rfl,LSt.begin _ _ (by rw[A4o,hvl]) _ (λr hr=>?_),World.ownsRow_nil _ _ _ _,(λk hk=>by cases hk),jT,dV,hF1⟩ ?_
 ·rw[List.getElem?_map] at hr
  cases hv0:bI[0]? with
  | none=>rw[hv0] at hr;cases hr
  | some r0=>rw[hv0] at hr;cases hr;rfl
 clear jT dV hF1 O1 W1 xI;rintro n _ L O w ⟨i,lv,u5,u6,u12,u13,u14,u15,u16,iF,iE,mM,u20,u21,u22,u23,hi,rfl,rfl,hL,lX,gG,jT,dV,hF1⟩;by_cases hlt:i<n0
 ·have hlt':(i:Int)<(n0:Int):=by omega
  have hic:i<cs.length:=omz
  have uN:i<bI.length:=omz
  obtain⟨sa0,sc0,hsv,_,hsc⟩:=P8 (Joins.ownsRow_le jT (Nat.zero_le _));obtain⟨b,hsa,hsb,hcell⟩:=hsc i (.chan (some cs[i])) (by rw[List.getElem?_map,A4p hic];rfl);subst hsa;clear hsc;have hcs:=A4p hic;have pq:=hid (take_snoc bI i uN);have hget:(bI[i]?).getD []=bI[i]:=by rw[A4p uN];rfl
  rw[hget] at hL;have HVE:=hid (jv _ (A4f uN));have fG:Hid ((bI.take i).flatten.length+bI[i].length<=1000000):=by
   show _<=_
   have h1:(bI.take (i+1)).flatten.length<=bI.flatten.length:=by
    have:bI.flatten=(bI.take (i+1)).flatten++(bI.drop (i+1)).flatten:=by rw[<-List.flatten_append,List.take_append_drop]
    rw[this,A38];omega
   rw[pq.out,List.flatten_append,A38] at h1;simp only[List.flatten_cons,List.flatten_nil,List.append_nil] at h1;omega
  have gq:Hid (∀r,(bI.map (·.map MI.val))[i+1]?=some r->r=((bI[i+1]?).getD []).map MI.val):=by
   intro r hr;rw[List.getElem?_map] at hr;cases hv0:bI[i+1]? with
   | none=>rw[hv0] at hr;cases hr
   | some r0=>rw[hv0] at hr;cases hr;rfl
  revert hcell hL hcs pq HVE fG
  generalize bI[i]=vs;generalize cs[i]=c;intro hL hcell hcs pq HVE fG;have gZ:=hid (λW (hW:Keep Low O w W)=>(World.cell?_of_block (a:=⟨b,i,none⟩) (hW.mine _ (dV b hsb))).trans hcell);have og:=dV b hsb;have di:=hid hsv;clear hcell hget hic uN;rw[di.out];have _Y:=gZ.out;refine kV ?_;clear _Y;rw[<-di.out];clear hsb di og hsv gZ;have HWI:Hid (IntKind.i64.wrap ((i:Int)+1)=((i+1:Nat):Int)):=by show _=_;rw[IntKind.wrap_i64];omega
  refine Xb (Bl _ _ _) (λn a' x' O' w'=>∃(k:Nat) (lv v6 v16 v17 v18 v19 v20 v21 v22:Value),k<=vs.length/\n=vs.length - k/\a'=⟨#[kv,undef, .slice none 0 0,lv,undef, .chan (some c),v6,kv,nv,sv, .int .i64 n0, .int .i64 i, .bool true, .pointer (some ⟨b,i,none⟩), .chan (some c), .chan (some c),v16,v17,v18,v19,v20,v21,v22,u23,undef],[]⟩/\LSt cs (bI.map (·.map MI.val)) i ((vs.drop k).map MI.val) x'/\w'.ownsRow Low 58 3 lv ((bI.take i).flatten++vs.take k).length (Fa ((bI.take i).flatten++vs.take k))/\(∀k,lv.ownBlock=some k->O' k/\sv.ownBlock≠some k)/\w'.ownsRow Low 62 1 sv n0 (cs.map λc=>.chan (some c))/\(∀k,sv.ownBlock=some k->O' k)/\Held Low w₀ O' w') vs.length
   ⟨0,lv,u6,u16,iF,iE,mM,u20,u21,u22,Nat.zero_le _,rfl,rfl,by rw[List.drop_zero];exact hL,by rw[List.take_zero,List.append_nil];exact lX,gG,jT,dV,hF1⟩ ?_
  clear hL lX gG jT dV hF1 O w lv L;rintro n _ L O w ⟨k,lv,v6,v16,v17,v18,v19,v20,v21,v22,hk,rfl,rfl,hL,lX,gG,jT,dV,hF1⟩;have HRR:Hid (∀w₁:World,(execOp (Act.eval ⟨#[kv,undef, .slice none 0 0,lv,undef, .chan (some c),v6,kv,nv,sv, .int .i64 n0, .int .i64 i, .bool true, .pointer (some ⟨b,i,none⟩), .chan (some c), .chan (some c),v16,v17,v18,v19,v20,v21,v22,u23,undef],[]⟩) {dst:=some 16,op:=.recv 62 (.tmp 15) true,type:=0,pos:= "l7_way.go:13",after:=#[],guard:=none}).run Tryz.prog w₁=.ok (.comm #[rcase c (.agg #[.int .i64 0, .int .i64 0, .slice none 0 0])] true (.recv true)) w₁):=by
   intro w₁;go_simp;rfl
  by_cases hkl:k<vs.length
  ·have hdk:=List.drop_eq_getElem_cons hkl
   have vT:Hid ((bI.take i).flatten++vs.take (k+1)=((bI.take i).flatten++vs.take k)++[vs[k]]):=by show _=_;rw[take_snoc vs k hkl,A4w]
   have hEk:=HVE _ (A4f hkl);have tC:Hid (((bI.take i).flatten++vs.take k).length+1<=1000000):=by
    show _<=_
    have h1:=fG.out;rw[A38,List.length_take];omega
   rw[hdk] at hL;clear hdk
   revert hL vT hEk
   generalize vs[k]=m;intro hL vT hEk;obtain⟨qa,sa,hva⟩:=Af hEk;clear hEk;obtain⟨xc,xo,xd,xa⟩:=m;dsimp only at hva;subst hva;rw[A4q] at hL;have hLi:=hL.2.2.1 c hcs;repeat (first | (first | refine Jl (Bl _ _ _) ?_ | refine Qj (Bl _ _ _) ?_ | refine Um (Bl _ _ _) ?_ | refine Qi (Bl _ _ _) ?_ | refine Yh (Bl _ _ _) ?_ | refine Un (Bl _ _ _) ?_ | refine Om (Bl _ _ _) ?_) | (simp only[Uo,Ko,if_true,if_false,reduceIte,Nat.reduceEqDiff]))
   (refine Fe (Bl _ _ _) ?_;simp only[A4b,A39,A4a,Nat.reduceAdd,A4h,List.range,List.range.loop])
   refine Ai1 (j:=i) (c:=c) (z:=.agg #[.int .i64 0, .int .i64 0, .slice none 0 0]) rfl rrz hLi HRR (λw₁=>by simp[execOp]) ?_ (λh=>by cases h);intro v vs' hvv;obtain⟨rfl,rfl⟩:=List.cons.inj hvv;clear hvv hLi HRR;replace hL:=hL.recv hcs;simp only[MI.val];try walk_nrm
   refine kV ?_;have hE1:=Ext.refl Low O w;refine Kz (Bl _ _ _) rfl rrz ?_ ?_
   ·intro _;simp[go_sem];done
   intro w₁ hR K hK;go_simp;refine hK _ _ ?_;clear hK K;obtain⟨O2,eO,hE2,hF2,hO2,hL2,bY,hH2⟩:=Akk hF1 hR #[.int .i64 0, .int .i64 0, .slice none 0 0] 58;rw[<-eO];clear eO
   revert hE2 hF2 hO2 hL2 bY hH2
   generalize w₁.alloc (.cells #[.int .i64 0, .int .i64 0, .slice none 0 0] 58)=W2;generalize w₁.heap.size=b2;intro hE2 hF2 hO2 hL2 bY hH2;replace hE2:=hE1.trans hE2;replace bY :=λx hx=>bY x (hE1.own x hx)
   clear hR w₁;try walk_nrm
   refine V6 (Bl _ _ _) b2 hO2 rfl rrz ?_ ?_
   ·intro w₁ hR e he
    have hh:=(hR.mine _ hO2).trans hH2;have y0:w₁.cell? ⟨b2,0,none⟩=some (.int .i64 0):=cell_of_heap hh 0;have z0:=frozen_of_heap hh 0;have y1:w₁.cell? ⟨b2,1,none⟩=some (.int .i64 0):=cell_of_heap hh 1;have z1:=frozen_of_heap hh 1;have y2:w₁.cell? ⟨b2,2,none⟩=some (.slice none 0 0):=cell_of_heap hh 2;have z2:=frozen_of_heap hh 2;clear hh;simp[go_sem,events_store_slice,storedEv, *] at he
    (first | (subst he;exact⟨_,_,rfl, .inl hO2⟩) | (rcases he with rfl | rfl<;>exact⟨_,_,rfl, .inl hO2⟩) | (rcases he with rfl | rfl | rfl | rfl<;>exact⟨_,_,rfl, .inl hO2⟩) | (rcases he with rfl | rfl | rfl | rfl | rfl | rfl<;>exact⟨_,_,rfl, .inl hO2⟩))
   intro w₁ hR K hK;have hh:=(hR.mine _ hO2).trans hH2;have y0:w₁.cell? ⟨b2,0,none⟩=some (.int .i64 0):=cell_of_heap hh 0;have z0:=frozen_of_heap hh 0;have y1:w₁.cell? ⟨b2,1,none⟩=some (.int .i64 0):=cell_of_heap hh 1;have z1:=frozen_of_heap hh 1;have y2:w₁.cell? ⟨b2,2,none⟩=some (.slice none 0 0):=cell_of_heap hh 2;have z2:=frozen_of_heap hh 2;clear hh;go_simp;try (unfold stored;go_simp)
   have hh:=(hR.mine _ hO2).trans hH2;have hp:Put b2 w₁ (((w₁.setCell ⟨b2,0,none⟩ (.int .i64 xc)).setCell ⟨b2,1,none⟩ (.int .i64 xo)).setCell ⟨b2,2,none⟩ (.slice qa xd.length sa)):=((((Put.refl _ _).set 0 (.int .i64 xc)).set 1 (.int .i64 xo)).set 2 (.slice qa xd.length sa))
   have hh2:(((w₁.setCell ⟨b2,0,none⟩ (.int .i64 xc)).setCell ⟨b2,1,none⟩ (.int .i64 xo)).setCell ⟨b2,2,none⟩ (.slice qa xd.length sa)).heap[b2]?=some (.cells #[.int .i64 xc, .int .i64 xo, .slice qa xd.length sa] 58):=(heap_setCell (heap_setCell (heap_setCell hh 0 (.int .i64 xc)) 1 (.int .i64 xo)) 2 (.slice qa xd.length sa))
   refine hK _ _ hp ?_;clear hK K hh y0 z0 y1 z1 y2 z2 hH2;replace hE2:=(hE2.rely hR).put hp hL2 bY;replace hF2:=(hF2.rely hR).put hp hL2
   revert hE2 hF2 hh2
   clear hp hR;generalize (((w₁.setCell ⟨b2,0,none⟩ (.int .i64 xc)).setCell ⟨b2,1,none⟩ (.int .i64 xo)).setCell ⟨b2,2,none⟩ (.slice qa xd.length sa))=W2;intro hh2 hE2 hF2;have HC2:Hid (∀W,Keep Low O2 W2 W->∀ii,W.cell? ⟨b2,ii,none⟩=(#[.int .i64 xc, .int .i64 xo, .slice qa xd.length sa]:Array Value)[ii]?):=λW hW ii=>(hW.ext.cell (.inl hO2) ii).trans (cell_of_heap hh2 ii)
   clear hh2;try walk_nrm
   replace lX:=hE2.row lX (λk hk=>.inl (gG k hk).1);replace jT:=hE2.row jT (λk hk=>.inl (dV k hk));have qg:Hid (some b2≠lv.ownBlock):=λe=>bY b2 (gG b2 e.symm).1 rfl
   have jK:∀k,lv.ownBlock=some k->O2 k/\sv.ownBlock≠some k:=λk hk=>⟨hE2.own _ (gG k hk).1,(gG k hk).2⟩
   have nZ:=λk hk=>hE2.own _ (dV k hk)
   clear hE1 hF1 gG dV hE2 bY O w;have _Y:=cs3 HC2;refine kV ?_;clear _Y;refine Kz (Bl _ _ _) rfl rrz ?_ ?_
   ·intro W1;simp[go_sem];done
   intro w₁ hR K hK;go_simp;refine hK _ _ ?_;clear hK K;obtain⟨O4,eO,fD,lZ,hO4,hL4,vF,qZ⟩:=Awy hF2 hR (.cells #[.int .i64 xc, .int .i64 xo, .slice qa xd.length sa] 58);rw[<-eO];clear eO
   revert fD lZ hO4 hL4 vF qZ
   generalize w₁.alloc (.cells #[.int .i64 xc, .int .i64 xo, .slice qa xd.length sa] 58)=W4;generalize w₁.heap.size=b4;intro fD lZ hO4 hL4 vF qZ;clear hR w₁;try walk_nrm
   replace lX:=fD.row lX (λk hk=>.inl (jK k hk).1);replace jT:=fD.row jT (λk hk=>.inl (nZ k hk));have sJ:=λk hk=>fD.own _ (jK k hk).1
   have lF:=λk hk=>fD.own _ (nZ k hk)
   obtain⟨i0,hti,hy0,hy1,hy2⟩:=info_parts Zq;refine Ac8 (Bl _ _ _) rfl rrz (.tmp 19) (.tmp 21) 24 rfl 58 i0 (.agg #[.int .i64 0, .int .i64 0, .slice none 0 0]) 3 40 Tryz.underlying24 hti hy0 hy1 hy2 rfl dcz lv _ _ (by simp[Act.eval]) lX sJ b4 1 [.int .i64 xc, .int .i64 xo, .slice qa xd.length sa] (by simp[Act.eval]) rfl hO4 ?_ ?_ ?_ ?_ lZ ?_
   ·intro jj u hu
    rw[cell_of_heap qZ];simpa using hu
   ·intro u hu
    simp only[A4t,List.not_mem_nil,or_false] at hu;rcases hu with rfl | rfl | rfl<;>rfl
   ·have:=tC.out;simp only[maxLen];omega
   ·have:=tC.out;omega
   clear hti hy0 hy1 hy2 i0;intro v5 W5 O5 hS5 qU ai vC hsm lY;try walk_nrm
   have yj:=Ru jT λk hk=>hsm k (lF k hk) λe=>(jK k e.symm).2 hk
   have zY:=λk hk=>vC k (lF k hk)
   have au:∀k,v5.ownBlock=some k->O5 k/\sv.ownBlock≠some k:=λk hk=>⟨qU k hk,λe=>by
    rcases ai k hk with h | h
    ·exact(jK k h.symm).2 e
    ·exact h (lF k e)⟩
   clear lX jT sJ lF jK nZ hsm vC qU ai lZ hF2 qZ fD vF;refine kV ?_;refine⟨vs.length - (k+1),omz,k+1,v5,_,_,_,_,_,_,_,_,omz,rfl,rfl,hL,?_,au,yj,zY,lY⟩;rw[vT.out,Aja,A38];exact hS5
  ·obtain rfl:k=vs.length:=by omega
   rw[List.drop_length,List.map_nil] at hL;rw[List.take_length] at lX;have hLi:=hL.2.2.1 c hcs;repeat (first | (first | refine Jl (Bl _ _ _) ?_ | refine Qj (Bl _ _ _) ?_ | refine Um (Bl _ _ _) ?_ | refine Qi (Bl _ _ _) ?_ | refine Yh (Bl _ _ _) ?_ | refine Un (Bl _ _ _) ?_ | refine Om (Bl _ _ _) ?_) | (simp only[Uo,Ko,if_true,if_false,reduceIte,Nat.reduceEqDiff]))
   (refine Fe (Bl _ _ _) ?_;simp only[A4b,A39,A4a,Nat.reduceAdd,A4h,List.range,List.range.loop])
   refine Ai1 (j:=i) (c:=c) (z:=.agg #[.int .i64 0, .int .i64 0, .slice none 0 0]) rfl rrz hLi HRR (λw₁=>by simp[execOp]) (λv vs' h=>by cases h) ?_;intro _;clear hLi HRR;replace hL:=hL.done hcs (by rw[A4o,hvl]) _ gq.out;try walk_nrm
   have hwi:=HWI.out;clear HWI;refine kV ?_;refine⟨n0 - (i+1),omz,i+1,lv,_,_,_,_,_,_,_,_,_,_,_,_,_,_,omz,rfl,rfl,hL,?_,gG,jT,dV,hF1⟩;rw[pq.out,List.flatten_append];simp only[List.flatten_cons,List.flatten_nil,List.append_nil];exact lX
 ·have hge:¬(i:Int)<(n0:Int):=by omega
  obtain rfl:i=n0:=omz
  have hall:∀e∈L,e.2.2=true:=λe he=>by
   obtain⟨t,ht⟩:=List.mem_iff_getElem?.1 he;exact hL.1 t (by have:=(List.getElem?_eq_some_iff.1 ht).1;rw[hL.2.1,hcl] at this;exact this) e ht
  rw[A43 omz] at lX;refine kV ?_;refine Ac9 (Bl _ _ _) (fn:=8) rfl (by simp[base]) ?_;refine kV ?_;refine(Bl _ _ _).ctl rfl (g':=_) ?_ (λ_=>stepG_ret') ?_
  ·rfl
  refine Ax2 rfl hall λw₁ hK=>HST2 _ w₁ lv rfl (hres _) ?_ ?_
  ·exact hK.ext.row lX λk hk=>.inl (gG k hk).1
  ·have:=hF1.rely hK
   exact⟨this.still,this.low,λ_ h=>h.elim,this.os,this.out⟩
end Go.Proofs.YtbfljjcnbbmoaaaGreatDoor
namespace Go.Co
open Stil
open Go.Conc
section
variable {P : Program}{Stop : Goroutine -> World -> Prop}{w : World}
theorem Ayz {g:Goroutine}(h:OkG g->Comes P g w Stop):Comes P g w Stop:=λgs sl t hF hg=>h hg gs sl t hF hg
end
end Go.Co
namespace Go.Proofs.YtbfljjcnbbmoaaaGreatDoor
open Stil
open Go.RowKit Go.Sort Go.BigFrame Go.Conc Go.Co
variable {B:Nat}{w':World}
structure Blw (B:Nat)(w w':World):Prop where
 os:w'.os=w.os
 out:w'.output=w.output
 size:w.heap.size<=w'.heap.size
 block:∀k,k<B->w'.heap[k]?=w.heap[k]?
theorem Blw.trans {a b c:World}(h:Blw B a b)(k:Blw B b c):Blw B a c:=⟨k.os.trans h.os,k.out.trans h.out,A4k h.size k.size,λi hi=>(k.block i hi).trans (h.block i hi)⟩
theorem Blw.of {w:World}(h:Below B w w'):Blw B w w':=⟨h.os,h.output,h.size,h.block⟩
theorem Blw.le {B':Nat}{w:World}(h:Blw B w w')(hb:B'<=B):Blw B' w w':=⟨h.os,h.out,h.size,λk hk=>h.block k (A37 hk hb)⟩
theorem Blw.tape {w:World}(h:Blw B w w')(d:Nat):Below B w {w' with tape:=w.tape,drawn:=d}:=⟨h.os,rfl,h.out,h.size,h.block⟩
def Tp (w w':World):Prop:=∃τ d,w'={w with tape:=τ,drawn:=d}
theorem Tp.refl (w:World):Tp w w:=⟨w.tape,w.drawn,rfl⟩
theorem Tp.al {w w1 w2:World}(h:Tp w w1)(k:Al (λx=>x=w1) w2):Tp w w2:=by
 obtain⟨τ,d,rfl⟩:=h;obtain⟨τ',d',h⟩:=k;refine⟨w2.tape,w2.drawn,?_⟩;have h1:=congrArg World.heap h;have h2:=congrArg World.os h;have h3:=congrArg World.output h;obtain⟨a,b,c,d,e⟩:=w2;simp only at h1 h2 h3;subst h1 h2 h3;rfl
theorem Avz (n:Stil.Net):Au n=0->Ady n:=by
 refine Fh (λn=>Au n=0->Ady n) ?_ n;intro k e kids ih h;rw[An5];have hf:=(Aav _ _ _).1 (Stil.full_of _ h);refine⟨?_,hf.1,λx hx=>ih x hx (Ky h x hx)⟩;rcases Ho h with⟨h1,_⟩ | ⟨h1,_⟩ | ⟨h1,_⟩<;>omega
theorem A2q {n:Stil.Net}(h:Ir n)(hf:Dc n)(hs:Stil.nsz n<=400):Ave n:=by
 refine⟨(Dp hf).2.1.2.1,?_,λx hx=>⟨?_,?_⟩⟩
 ·rcases h with h | h
  ·rw[Ym h];exact Nat.zero_le _
  ·by_cases hn:Aq n=true
   ·rw[Ym hn];exact Nat.zero_le _
   ·have e:Stil.nsz n=Aj n:=if_neg hn
    rw[e,D8 n] at hs;have:=Ig n.kids
    omega
 ·unfold Di at hx
  split at hx
  ·cases hx
  ·rename_i hn
   have hfn:=h.resolve_left hn;split at hx
   ·exact Avz x (Ky hfn.2.2 x hx)
   ·rw[List.mem_singleton.1 hx];exact Avz n hfn.2.2
 ·have:=Aab n x hx
  omega
theorem A2t (a:Stil.Arm):Fq a->Ci a->Ak a<=400->Ae4 a:=by
 refine Fg (λa=>Fq a->Ci a->Ak a<=400->Ae4 a) ?_ a;intro n cs kids ih h1 h2 h3;obtain⟨_,hk⟩:=(Eu _ _ _).1 h1;obtain⟨_,_,_,_,bK⟩:=(Em _ _ _).1 h2;rw[Cc] at h3;have hl:=Lc kids;have hm:∀x∈kids,Ak x<=400:=λx hx=>by
  have:Ak x<=Hq kids:=D9 Ak kids x hx;omega
 rw[An6];refine⟨omz,omz,λx hx=>?_,λx hx=>ih x hx (hk x hx) (bK x hx) (hm x hx)⟩;have hs:=hm x hx;have h4:=hk x hx;have h5:=bK x hx;obtain⟨xn,xc,xk⟩:=x;rw[Cc] at hs;exact A2q (n:=xn) ((Eu _ _ _).1 h4).1 ((Em _ _ _).1 h5).1 omz
def Aov (w:World)(base:Nat)(v:Value)(ms:List MI):Prop:=∃B,base<=B/\w.ownsRow B 58 3 v ms.length (Fa ms)/\(∀x∈ms,EOk w base x.e)/\(bl (ms.map (·.e.av))).Nodup/\∀k∈bl (ms.map (·.e.av)),base<=k/\k<B
theorem Ant:∀{vs:List Value},vs.Pairwise Aside->(bl vs).Nodup
 | [],_=>List.nodup_nil
 | v::vs,h=>by
  obtain⟨h1,h2⟩:=List.pairwise_cons.1 h;have ih:=Ant h2;unfold bl at*;rw[List.filterMap_cons];split
  ·exact ih
  ·rename_i k hk
   refine List.nodup_cons.2 ⟨λhm=>?_,ih⟩;obtain⟨u,hu,wu⟩:=List.mem_filterMap.1 hm;exact(h1 u hu).no hk wu
theorem Aps {w:World}{base e s n:Nat}{v:Value}{xs:List Value}(h:w.ownsRow 0 e s v n xs)(hb:∀k,v.ownBlock=some k->base<=k):w.ownsRow base e s v n xs:=by
 refine⟨h.1,?_⟩;rcases h.2 with hn | ⟨g,cap,cur,hv,_,rest⟩
 ·exact .inl hn
 ·exact .inr ⟨g,cap,cur,hv,hb g (by rw[hv];rfl),rest⟩
theorem Az6 {w₀:World}{f:Aw->Nat->List MI}:∀(cs:List Nat) (ms:List Aw),cs.length=ms.length->(∀m∈ms,∀c,MIs w₀ m.vals (f m c) (F7 m.arm))->MIs w₀ (Gj ms) (Wv f cs ms).flatten ((ms.map Aw.arm).map F7).flatten
 | [],[],_,_=>MIs.nil
 | [],_::_,h,_=>by cases h
 | _::_,[],h,_=>by cases h
 | c::cs,m::ms,h,hm=>by
  have ih:=Az6 cs ms (by simpa using h) λx hx=>hm x (by simp[hx])
  have e:Wv f (c::cs) (m::ms)=f m c::Wv f cs ms:=rfl;have e2:Gj (m::ms)=m.vals++Gj ms:=rfl;rw[e,e2,List.flatten_cons,A4q,A4q,List.flatten_cons];exact(hm m spz c).append ih
set_option maxRecDepth 100000 in
set_option maxHeartbeats 4000000 in
theorem Aqr (l:List Stil.Arm)(kv:Value)(w:World)(hr:Es w)(hg:Et w)(hkv:Dj w kv l)(hl:l.length<=1048576)(hsz:Ce l<=1000000000)(hft:∀x∈l,Ci x):
  Uk Tryz.prog 8 #[kv] w λv w'=>∃ms:List MI,ms.map MI.inst=H6 l/\Aov w' w.heap.size v ms/\Blw w.heap.size w w':=by
 intro fr cs Stop hn;have hbody:∃c0 c1 blk tl id ops,Tryz.f8.body=some (.seq c0 (.seq c1 (.seq (.seq (.region id ops false) blk) (.seq tl .ret)))):=⟨_,_,_,_,_,_,rfl⟩
 obtain⟨c0,c1,blk,tl,id,ops,hbody⟩:=hbody;refine Ayz λhok=>?_
 have hcs:∀c∈fr::cs,Y6 c:=hok.2;clear hok;rw[Go.Co.enter_at #[kv] Tryz.func8 hbody];simp only[Tryz.ntmps8,A4b,A39,A4a,Nat.reduceAdd,Nat.reduceSub,A41,A42,A47,A44,A4z,A4y];have hp0:∀(v:Value) (w':World) (τ:Tape) (d:Nat),(∃(a:Option Addr) (c:Nat) (ms:List Aw),v=.slice a ms.length c/\ms.map Aw.arm=Bc l/\Oi {w' with tape:=τ,drawn:=d} w.heap.size (.slice a ms.length c) ms/\Blw w.heap.size w {w' with tape:=τ,drawn:=d})->
   ∃(a:Option Addr) (c:Nat) (ms:List Aw),v=.slice a ms.length c/\ms.map Aw.arm=Bc l/\Oi w' w.heap.size (.slice a ms.length c) ms/\Blw w.heap.size w w':=by
  rintro v w' τ d ⟨a,c,ms,h1,h2,h3,h4⟩;have e:Oi {w' with tape:=τ,drawn:=d} w.heap.size (.slice a ms.length c) ms=Oi w' w.heap.size (.slice a ms.length c) ms:=krz
  exact⟨a,c,ms,h1,h2,e ▸ h3,h4.os,h4.out,h4.size,h4.block⟩
 have xN:∀W,Tp w W->Uk Tryz.prog 22 #[kv] W λv w'=>∃(a:Option Addr) (c:Nat) (ms:List Aw),v=.slice a ms.length c/\ms.map Aw.arm=Bc l/\Oi w' w.heap.size (.slice a ms.length c) ms/\Blw w.heap.size w w':=by
  rintro _ ⟨τ0,d0,rfl⟩;refine(Yz okP (Post:=λv w'=>∃(a:Option Addr) (c:Nat) (ms:List Aw),v=.slice a ms.length c/\ms.map Aw.arm=Bc l/\Oi w' w.heap.size (.slice a ms.length c) ms/\Blw w.heap.size w w') fun τ d=>?_).mono λv w' ⟨τ,d,h⟩=>hp0 v w' τ d h
  have e1:Es {w with tape:=τ,drawn:=d}=Es w:=krz
  have e2:Et {w with tape:=τ,drawn:=d}=Et w:=krz
  have e3:Dj {w with tape:=τ,drawn:=d} kv l=Dj w kv l:=krz
  refine(Aau l kv {w with tape:=τ,drawn:=d} (e1 ▸ hr) (e2 ▸ hg) (e3 ▸ hkv) hl hsz hft).mono λe w' h=>?_
  obtain⟨⟨a,c,ms,rfl,h1,h2⟩,hb⟩:=h;exact⟨_,rfl,a,c,ms,rfl,h1,h2,hb.os,hb.output,hb.size,hb.block⟩
 have wQ:=λ(Low:Nat) (w₀:World) (ms:List Aw) (f:Aw->Nat->List MI) (aa:Option Addr) (cap:Nat) (Stop:Goroutine->World->Prop) h1 h2 h3 h4 h5 h6 wo h7 pg hst=>A1v (Low:=Low) (Stop:=Stop) w₀ ms f aa cap h1 h2 h3 h4 h5 h6 (λ_=>False) wo h7 kv pg hbody hst
 have jX:=hbody;unfold Tryz.f8 at jX;dsimp only at jX;cases jX;refine Qs okP λw1 h=>?_
 have t1:=(Tp.refl w).al h;refine Md okP λw2 h=>?_
 have t2:=t1.al h;simp only[A4b,A39,A4a,A4h,List.range,List.range.loop];refine Fj okP rfl rrz (by simp[base]) (v:=.slice none 0 0) (λ_=>by go_simp) (λ_=>by simp[go_sem]) λw3 h=>?_
 have t3:=t2.al h;refine Wp okP λw4 h=>?_
 have t4:=t3.al h;refine Qs okP λw5 h=>?_
 have t5:=t4.al h;refine Md okP λw6 h=>?_
 have t6:=t5.al h;simp only[A4b,A39,A4a,A4h,List.range,List.range.loop];refine Fj okP rfl rrz (by simp[base]) (v:=.slice none 0 0) (λ_=>by go_simp) (λ_=>by simp[go_sem]) λw7 h=>?_
 have t7:=t6.al h;refine Wp okP λw8 h=>?_
 have t8:=t7.al h;refine Qs okP λw9 h=>?_
 have t9:=t8.al h;refine Qs okP λw10 h=>?_
 have t10:=t9.al h;refine Md okP λxU h=>?_
 have t11:=t10.al h;simp only[A4b,A39,A4a,Nat.reduceAdd,A4h,List.range,List.range.loop];refine Fj okP rfl rrz (by simp[base]) (v:=kv) (λ_=>by go_simp) (λ_=>by simp[go_sem]) λw12 h=>?_
 have t12:=t11.al h;clear t1 t2 t3 t4 t5 t6 t7 t8 t9 t10 t11 h;refine Uh okP rfl rrz (by simp[base]) rfl Tryz.func22 rfl (vals:=#[kv]) (by simp[Act.eval,Act.put]) (λw' h=>xN w' (t12.al h)) λv W1 hp=>?_
 clear xN hp0 t12;obtain⟨aa,cap,ms,rfl,hms,hrow,hbl⟩:=hp;have hrow0:=Joins.ownsRow_le hrow.1 (Nat.zero_le _);have zW:∀m∈ms,VOk W1.heap.size W1 m:=λm hm=>⟨(hrow.2.1 m hm).le (Nat.zero_le _),λx hx k hk=>((hrow.2.1 m hm).lt m x hx k hk).2⟩
 have hfits:=I9 hft;have jV:∀m∈ms,Ae4 m.arm/\Ady m.net.net/\Aj m.net.net<=1000000:=λm hm=>by
  have hmem:m.arm∈Bc l:=by rw[<-hms];exact List.mem_map_of_mem hm
  by_cases h0:(Bo l).1=0
  ·obtain⟨hR,_,_⟩:=Xg hft h0
   have hr1:=hR _ hmem;have lS:m.arm.net=m.net.net:=by rw[Aw.arm_eq]
   have h1:=hr1.net;rw[lS] at h1;refine⟨A2t _ hr1.fineA (hfits.1 _ hmem) hr1.size,Avz _ h1.2.2,?_⟩;have hs:=hr1.size;have e:m.arm=⟨m.arm.net,m.arm.coils,m.arm.kids⟩:=by generalize m.arm=x;cases x;rfl
   rw[e,Cc,lS] at hs;have:=Stil.size_le m.net.net
   omega
  ·rw[show Bc l=[] by unfold Bc;rw[if_neg h0]] at hmem
   cases hmem
 obtain⟨f,hf⟩:∃f:Aw->Nat->List MI,∀m∈ms,∀c,MIs W1 m.vals (f m c) (F7 m.arm)/\∀w O,Held W1.heap.size W1 O w->okS Tryz.prog W1.heap.size c ((f m c).map MI.val) O w (born Tryz.prog (dcall 43 #[.chan (some c), .agg #[.int .i64 m.net.kind, .int .i64 m.net.op,m.net.av,m.net.kv,m.cv,m.kv]])):=by
  classical
  refine⟨λm c=>if h:∃vs,MIs W1 m.vals vs (F7 m.arm)/\∀w O,Held W1.heap.size W1 O w->okS Tryz.prog W1.heap.size c (vs.map MI.val) O w (born Tryz.prog (dcall 43 #[.chan (some c), .agg #[.int .i64 m.net.kind, .int .i64 m.net.op,m.net.av,m.net.kv,m.cv,m.kv]])) then h.choose else [],λm hm c=>?_⟩;have h:=A23 (c:=c) W1 m (jV m hm).1 (jV m hm).2.1 (jV m hm).2.2 (zW m hm);simp only[h,dite_true];exact h.choose_spec
 have hwp:H6 l=((ms.map Aw.arm).map F7).flatten:=by unfold H6;rw[hms]
 have uN:=λ(cs:List Nat) (h:cs.length=ms.length)=>Az6 (w₀:=W1) (f:=f) cs ms h λm hm c=>(hf m hm c).1
 have hlen:ms.length<=40:=by have:=hfits.2.2;rw[<-hms,A4o] at this;exact this
 refine Comes.then (S:=λg' w'=>(∃(a':Act) (v:Value),g'=G {(base 8).at a' [.code .ret] with mode:=.returning} (fr::cs)/\a'.defers=[]/\ResultsC Tryz.prog Tryz.f8 a'.tmps v/\∃ms:List MI,ms.map MI.inst=H6 l/\Aov w' w.heap.size v ms/\Blw w.heap.size w w')/\OkG g') ?_ ?_
 ·refine Aj6 (Low:=W1.heap.size) (O:=λ_=>False) (λ_ h=>h.elim) (A4d _) (λg w h=>h.2) ?_
  refine wQ W1.heap.size W1 ms f aa cap _ (λi hi=>?_) zW (λm hm c w O hF=>(hf m hm c).2 w O hF) omz (λcs' hc'=>?_) (λm hm c x hx=>(hf m hm c).1.2.1 x hx) W1 ⟨λ_ _=>rfl,A4d _,λ_ h=>h.elim,rfl,rfl⟩ (fr::cs) ?_
  ·obtain⟨a',cap',e,_,hc⟩:=P8 hrow0
   cases e;obtain⟨g0,g1,g2,g3,g4,g5⟩:=Na ms i hi;obtain⟨b,ha,hb,c0⟩:=hc _ _ g0;obtain⟨b1,ha1,_,c1⟩:=hc _ _ g1;obtain⟨b2,ha2,_,c2⟩:=hc _ _ g2;obtain⟨b3,sG,_,c3⟩:=hc _ _ g3;obtain⟨b4,zU,_,c4⟩:=hc _ _ g4;obtain⟨b5,zT,_,c5⟩:=hc _ _ g5;rw[ha] at ha1 ha2 sG zU zT;cases ha1;cases ha2;cases sG;cases zU;cases zT;refine⟨b,0,ha,(hrow.1.lt b hb).2,?_⟩;unfold Afd Vu;rw[A4h];exact⟨⟨c0,c1,c2,c3⟩,c4,c5⟩
  ·have h1:=congrArg List.length (uN cs' hc').1
   rw[A4o,<-hwp] at h1;rw[h1];have:=Yk hft
   omega
  ·intro a' w' v cs' hd hres hc' hown hF
   have hI:=uN cs' hc';have hsame:=hF.still;have hlt:∀k∈bl (((Wv f cs' ms).flatten).map (·.e.av)),w.heap.size<=k/\k<W1.heap.size:=λk hk=>by
    have hk2:=hI.2.2.subset hk;obtain⟨u,hu,wu⟩:=List.mem_filterMap.1 hk2;obtain⟨m,hm,hum⟩:=Io.1 hu;exact(hrow.2.1 m hm).lt m u hum k wu
   have hinst:=hI.1.trans hwp.symm;have hnd:=(Ant (List.pairwise_cons.1 hrow.2.2).2).sublist hI.2.2;have hEE:=hI.2.1;clear hI
   revert hown hlt hinst hnd hEE
   generalize (Wv f cs' ms).flatten=L;intro hown hlt hinst hnd hEE;have hOw:Aov w' w.heap.size v L:=by
    refine⟨W1.heap.size,hbl.size,hown,λx hx=>?_,hnd,hlt⟩;have hin:=λk hk=>hlt k (List.mem_filterMap.2 ⟨x.e.av,List.mem_map_of_mem (f:=λy:MI=>y.e.av) hx,hk⟩)
    exact Aps (Ru (hEE x hx) λk hk=>hsame k (hin k hk).2) λk hk=>(hin k hk).1
   have hBl:Blw w.heap.size w w':=⟨hF.os.trans hbl.os,hF.out.trans hbl.out,A4k hbl.size hF.low,λk hk=>(hF.still k (A37 hk hbl.size)).trans (hbl.block k hk)⟩
   have hOk:OkG (G {(base 8).at a' [.code .ret] with mode:=.returning} (fr::cs)):=by
    refine⟨λi hi=>?_,hcs⟩;have :=List.mem_singleton.1 hi;rw[this];trivial
   exact⟨⟨a',v,rfl,hd,hres,L,hinst,hOw,hBl⟩,hOk⟩
 ·rintro g' w' _ ⟨⟨a',v,rfl,hd,hres,ms',hi,hO,hB⟩,_⟩
  refine Qu okP (fr':=fr.finish v) (cs':=cs) (λw₁=>?_) λw'' h=>?_
  ·exact stepG_leave (b:=base 8) rfl hd Tryz.func8 (hres w₁).1 (hres w₁).2
  ·obtain⟨τ,d,rfl⟩:=(Tp.refl w').al h
   have e:Aov {w' with tape:=τ,drawn:=d} w.heap.size v ms'=Aov w' w.heap.size v ms':=krz
   exact hn v _ ⟨ms',hi,e ▸ hO,hB.os,hB.out,hB.size,hB.block⟩
end Go.Proofs.YtbfljjcnbbmoaaaGreatDoor
