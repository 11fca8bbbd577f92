import Derived.Test.YtbfljjcnbbmoaaaGreatDoorCE3b
import Derived.Below
import Derived.Test.YtbfljjcnbbmoaaaGreatDoorM56
import Derived.Test.YtbfljjcnbbmoaaaGreatDoorGb
import Derived.Test.YtbfljjcnbbmoaaaGreatDoorGq
namespace Go.Co
open Go.Conc Go.RowKit
structure Ext (Low:Nat)(O O':Nat->Prop)(w w':World):Prop where
 own:∀b,O b->O' b
 still:∀b,b<Low->w'.heap[b]?=w.heap[b]?
 mine:∀b,O b->w'.heap[b]?=w.heap[b]?
 size:w.heap.size<=w'.heap.size
section
variable {Low : Nat}{w₀ w w' w'' : World}{bs : List (Nat × Obj)}{O O' sS : Nat -> Prop}
theorem Ext.refl (Low:Nat)(O:Nat->Prop)(w:World):Ext Low O O w w:=⟨λ_ h=>h,λ_ _=>rfl,λ_ _=>rfl,A4d _⟩
theorem Ext.trans (h:Ext Low O O' w w')(k:Ext Low O' sS w' w''):Ext Low O sS w w'':=
 ⟨λb hb=>k.own b (h.own b hb),λb hb=>(k.still b hb).trans (h.still b hb),λb hb=>(k.mine b (h.own b hb)).trans (h.mine b hb),A4k h.size k.size⟩
theorem Keep.ext (h:Keep Low O w w'):Ext Low O O w w':=⟨λ_ h=>h,h.still,h.mine,h.size⟩
theorem Aeh {w:World}{b:Nat}(hb:b<w.heap.size)(ob:Obj):(w.alloc ob).heap[b]?=w.heap[b]?:=by
 simp only[World.alloc];rw[Array.getElem?_push_lt hb,Array.getElem?_eq_getElem hb]
theorem Ext.new (hl:Low<=w.heap.size)(hO:∀b,O b->b<w.heap.size)(ob:Obj):Ext Low O (λb=>O b\/b=w.heap.size) w (w.alloc ob):=
 ⟨λ_ h=>.inl h,λb hb=>Aeh (A37 hb hl) ob,λb hb=>Aeh (hO b hb) ob,by simp only[World.alloc,Array.size_push];omega⟩
end
structure Held (Low:Nat)(w₀:World)(O:Nat->Prop)(w:World):Prop where
 still:∀b,b<Low->w.heap[b]?=w₀.heap[b]?
 low:Low<=w.heap.size
 up:∀b,O b->b<w.heap.size
 os:w.os=w₀.os
 out:w.output=w₀.output
section
variable {Low : Nat}{w₀ w w' : World}{O O' : Nat -> Prop}
theorem Held.rely (h:Held Low w₀ O w)(hk:Keep Low O w w'):Held Low w₀ O w':=⟨λb hb=>(hk.still b hb).trans (h.still b hb),A4k h.low hk.size,λb hb=>A37 (h.up b hb) hk.size,hk.os.trans h.os,hk.out.trans h.out⟩
theorem Held.new (h:Held Low w₀ O w)(ob:Obj):Held Low w₀ (λb=>O b\/b=w.heap.size) (w.alloc ob):=
 ⟨λb hb=>(Aeh (A37 hb h.low) ob).trans (h.still b hb),by simp only[World.alloc,Array.size_push];have:=h.low;omega,λb hb=>by
  simp only[World.alloc,Array.size_push];rcases hb with hb | hb
  ·have:=h.up b hb;omega
  ·omega,h.os,h.out⟩
theorem Held.down (h:Held Low w₀ O w){b:Nat}(hb:b<Low)(k:Nat):w.cell? ⟨b,k,none⟩=w₀.cell? ⟨b,k,none⟩:=by
 simp only[World.cell?,h.still b hb]
theorem Held.ext (h:Held Low w₀ O w)(ob:Obj):Ext Low O (λb=>O b\/b=w.heap.size) w (w.alloc ob):=Ext.new h.low h.up ob
theorem Ext.cell (h:Ext Low O O' w w'){b:Nat}(hb:O b\/b<Low)(k:Nat):w'.cell? ⟨b,k,none⟩=w.cell? ⟨b,k,none⟩:=by
 have :=hb.elim (h.mine b) (h.still b);simp only[World.cell?,this]
theorem Ae9 (w:World)(cs:Array Value)(ty:TypeId)(k:Nat):(w.alloc (.cells cs ty)).cell? ⟨w.heap.size,k,none⟩=cs[k]?:=by
 have:(w.alloc (.cells cs ty)).heap[w.heap.size]?=some (.cells cs ty):=by simp only[World.alloc];exact Array.getElem?_push_size
 simp only[World.cell?,this];rfl
theorem Gl {τ:Type}{P:Program}{main:Bool}{pre:τ->World->Prop}{ok:τ->(Nat->Prop)->World->Goroutine->Prop}{fn:FuncId}{Q:Va τ}{a:Act}{x:τ}(T:OkL P main Low pre ok){ops:Array Oper}{i:Nat}{rest:List Nat}{o:Oper}{f:FuncId}{args:Array Operand}{ats:Array TypeId}{vals:Array Value}{Post:Value->τ->(Nat->Prop)->World->Prop}
  (ho:ops[i]?=some o) (hw:Region.wanted o (yielded ops a.tmps)=true) (hop:o.op=.call {callee:=.value (.func f),args,argTypes:=ats})
  (hcall:J6 P ok f vals x O w Post) (hargs:args.map a.eval=vals) (hnext:∀v x' O' w',Post v x' O' w'->Tj ok fn ops rest Q (a.put o.dst v) x' O' w'):Tj ok fn ops (i::rest) Q a x O w:=
 Aup T ho hw hop (by rw[hargs];exact hcall) hnext
theorem boxed {w₁:World}(hF:Held Low w₀ O w)(hR:Keep Low O w w₁)(cs:Array Value)(ty:TypeId):
  ∃O1,O1=(λb=>O b\/b=w₁.heap.size)/\Ext Low O O1 w (w₁.alloc (.cells cs ty))/\Held Low w₀ O1 (w₁.alloc (.cells cs ty))/\O1 w₁.heap.size/\Low<=w₁.heap.size/\
   ∀W,Keep Low O1 (w₁.alloc (.cells cs ty)) W->∀k,W.cell? ⟨w₁.heap.size,k,none⟩=cs[k]?:=
 ⟨_,rfl,hR.ext.trans ((hF.rely hR).ext _),(hF.rely hR).new _, .inr rfl,(hF.rely hR).low,λ_W hW k=>(hW.ext.cell (.inl (.inr rfl)) k).trans (Ae9 _ _ _ _)⟩
end
section
variable {τ : Type}{P : Program}{main : Bool}{Low : Nat}{pre : τ -> World -> Prop}{ok : τ -> (Nat -> Prop) -> World -> Goroutine -> Prop}{fn : FuncId}{Q : Va τ}{a : Act}{x : τ}{O : Nat -> Prop}{w w₀ : World}{ops : Array Oper}{i : Nat}{rest : List Nat}{o : Oper}
theorem kB (hF:Held Low w₀ O w)(cs:Array Value)(ty:TypeId)
  (h:∀O1 W1 b,Ext Low O O1 w W1->Held Low w₀ O1 W1->O1 b->Low<=b->Hid (∀W,Keep Low O1 W1 W->∀k,W.cell? ⟨b,k,none⟩=cs[k]?)->Tj ok fn ops rest Q (a.put o.dst (.pointer (some ⟨b,0,none⟩))) x O1 W1)
  (ho:ops[i]?=some o:=by rfl) (hw:Region.wanted o (yielded ops a.tmps)=true:=by rfl) (T:OkL P main Low pre ok:=by first | exact Bg _ _ _ | exact Bl _ _ _) (he:∀w₁:World,(execOp a.eval o).events P w₁ #[]=#[]:=by(intro _;simp[go_sem]))
  (hr:∀(w₁:World) (K:Act->World->Prop),K (a.put o.dst (.pointer (some ⟨w₁.heap.size,0,none⟩))) (w₁.alloc (.cells cs ty))->uponK o a K ((execOp a.eval o).run P w₁):=by(intro w₁ K hK;go_simp;exact hK)):Tj ok fn ops (i::rest) Q a x O w:=by
 refine Kz T ho hw he λw₁ hR K hK=>hr w₁ K (hK _ _ ?_)
 obtain⟨O1,eO,h1,h2,h3,h4,h5⟩:=boxed hF hR cs ty;rw[<-eO];exact h O1 _ _ h1 h2 h3 h4 h5
theorem Ag1 {O1 O2:Nat->Prop}{W1 W2:World}{b:Nat}{f:Nat->Option Value}(H:Hid (∀W,Keep Low O1 W1 W->∀k,W.cell? ⟨b,k,none⟩=f k))(hE:Ext Low O1 O2 W1 W2)(hO:O1 b):Hid (∀W,Keep Low O2 W2 W->∀k,W.cell? ⟨b,k,none⟩=f k):=λ_ hW k=>(hW.ext.cell (.inl (hE.own _ hO)) k).trans ((hE.cell (.inl hO) k).trans (H _ (Keep.refl _ _ _) k))
end
end Go.Co
set_option maxHeartbeats 4000000
set_option maxRecDepth 100000
namespace Go.Proofs.YtbfljjcnbbmoaaaGreatDoor
open Go.RowKit Go.Sort Go.BigFrame Go.Conc Go.Co
variable {Low c : Nat}
theorem A3y (n:Nat):((n:Int)==0)=(n==0):=by rw[Bool.eq_iff_iff,beq_iff_eq,beq_iff_eq];omega
theorem Awu (op:Int)(a:Option Addr)(ln cap:Nat)(_h:ln<=1048576)(w₀:World)(vs:List Value)(O:Nat->Prop)(w:World)(hF:Held Low w₀ O w):
  J6 Tryz.prog (okS Tryz.prog Low c) 97 #[.agg #[.int .i64 op, .slice a ln cap]] vs O w λv x' O' w'=>v=.bool (op==0 && ln==0)/\x'=vs/\Ext Low O O' w w'/\Held Low w₀ O' w':=by
 have hres:=resultsC_tmp (P:=Tryz.prog) (fn:=Tryz.f97) rfl;by_cases h0:op=0
 ·subst h0
  refine He Tryz.func97 rrz rfl ?_;simp only[Tryz.ntmps97,A4b,A39,A4a,Nat.reduceAdd,Nat.reduceSub,A41,A42,A47,A44,A4z,A4y];refine Jl (Bg _ _ _) ?_
  (refine Fe (Bg _ _ _) ?_;simp only[A4b,A39,A4a,Nat.reduceAdd,A4h,List.range,List.range.loop])
  refine kB hF #[.int .i64 0, .slice a ln cap] 49 λO1 W1 b1 hE1 hF1 aZ hL1 bH=>?_
  try walk_nrm
  have _Y:=cs2 bH;refine kW ?_;clear _Y;exact⟨rfl,_,hres _,by simp[A3y],rfl,hE1,hF1⟩
 ·have h1:(op==0)=false:=by rw[A5a];exact h0
  refine He Tryz.func97 rrz rfl ?_;simp only[Tryz.ntmps97,A4b,A39,A4a,Nat.reduceAdd,Nat.reduceSub,A41,A42,A47,A44,A4z,A4y];refine Jl (Bg _ _ _) ?_
  (refine Fe (Bg _ _ _) ?_;simp only[A4b,A39,A4a,Nat.reduceAdd,A4h,List.range,List.range.loop])
  refine kB hF #[.int .i64 op, .slice a ln cap] 49 λO1 W1 b1 hE1 hF1 aZ hL1 bH=>?_
  try walk_nrm
  have _Y:=cs2 bH;refine kW ?_;clear _Y;exact⟨rfl,_,hres _,by simp[h1],rfl,hE1,hF1⟩
theorem Ay9 (k op:Int)(p0:Option Addr)(la r0:Nat)(p1:Option Addr)(lk r1:Nat)(hla:la<=1048576)(_hlk:lk<=1048576)(w₀:World)(vs:List Value)(O:Nat->Prop)(w:World)(hF:Held Low w₀ O w):
  J6 Tryz.prog (okS Tryz.prog Low c) 73 #[.agg #[.int .i64 k, .int .i64 op, .slice p0 la r0, .slice p1 lk r1]] vs O w
   λv x' O' w'=>v=.bool ((k==0 && (op==0 && la==0)) && lk==0)/\x'=vs/\Ext Low O O' w w'/\Held Low w₀ O' w':=by
 have hres:=resultsC_tmp (P:=Tryz.prog) (fn:=Tryz.f73) rfl;by_cases h0:k=0
 ·subst h0
  have HN:Hid (∀O W,Held Low w₀ O W->J6 Tryz.prog (okS Tryz.prog Low c) 97 #[.agg #[.int .i64 op, .slice p0 la r0]] vs O W λv x' O' w'=>v=.bool (op==0 && la==0)/\x'=vs/\Ext Low O O' W w'/\Held Low w₀ O' w'):=λO W h=>Awu op p0 la r0 hla w₀ vs O W h
  obtain⟨bb,hbb⟩:∃bb,bb=(op==0 && la==0):=⟨_,rfl⟩
  rw[<-hbb] at HN ⊢;clear hbb;refine He Tryz.func73 rrz rfl ?_;simp only[Tryz.ntmps73,A4b,A39,A4a,Nat.reduceAdd,Nat.reduceSub,A41,A42,A47,A44,A4z,A4y];refine Jl (Bg _ _ _) ?_
  (refine Fe (Bg _ _ _) ?_;simp only[A4b,A39,A4a,Nat.reduceAdd,A4h,List.range,List.range.loop])
  refine kB hF #[.int .i64 0, .int .i64 op, .slice p0 la r0, .slice p1 lk r1] 52 λO1 W1 b1 hE1 hF1 aZ hL1 bH=>?_
  try walk_nrm
  have _Y:=cs4 bH;refine kW ?_;clear _Y;cases bb with
  | false=>
   (refine Gl (Bg _ _ _) rfl rrz rfl (HN _ _ hF1) (by simp[Act.eval]) ?_;rintro _ _ O2 W2 ⟨rfl,rfl,hE2,hF2⟩;try walk_nrm)
   refine kW ?_;exact⟨rfl,_,hres _,spz,rfl,hE1.trans hE2,hF2⟩
  | true=>
   (refine Gl (Bg _ _ _) rfl rrz rfl (HN _ _ hF1) (by simp[Act.eval]) ?_;rintro _ _ O2 W2 ⟨rfl,rfl,hE2,hF2⟩;try walk_nrm)
   replace bH:Hid (∀W,Keep Low O2 W2 W->∀k,W.cell? ⟨b1,k,none⟩=(#[.int .i64 0, .int .i64 op, .slice p0 la r0, .slice p1 lk r1]:Array Value)[k]?):=λW hW k=>(hW.ext.cell (.inl (hE2.own _ aZ)) k).trans ((hE2.cell (.inl aZ) k).trans (bH _ (Keep.refl _ _ _) k))
   replace aZ:=hE2.own _ aZ;have _Y:=cs4 bH;refine kW ?_;clear _Y;exact⟨rfl,_,hres _,by simp[A3y],rfl,hE1.trans hE2,hF2⟩
 ·have h1:(k==0)=false:=by rw[A5a];exact h0
  refine He Tryz.func73 rrz rfl ?_;simp only[Tryz.ntmps73,A4b,A39,A4a,Nat.reduceAdd,Nat.reduceSub,A41,A42,A47,A44,A4z,A4y];refine Jl (Bg _ _ _) ?_
  (refine Fe (Bg _ _ _) ?_;simp only[A4b,A39,A4a,Nat.reduceAdd,A4h,List.range,List.range.loop])
  refine kB hF #[.int .i64 k, .int .i64 op, .slice p0 la r0, .slice p1 lk r1] 52 λO1 W1 b1 hE1 hF1 aZ hL1 bH=>?_
  try walk_nrm
  have _Y:=cs4 bH;refine kW ?_;clear _Y;exact⟨rfl,_,hres _,by simp[h1],rfl,hE1,hF1⟩
end Go.Proofs.YtbfljjcnbbmoaaaGreatDoor
namespace Go.Proofs.YtbfljjcnbbmoaaaGreatDoor
open Stil
open Go.RowKit Go.Sort Go.BigFrame Go.Conc Go.Co
theorem P8 {w₀:World}{e:TypeId}{s n:Nat}{v:Value}{xs:List Value}(h:w₀.ownsRow 0 e s v n xs):∃a cap,v=.slice a n cap/\Aa6 a n cap/\∀j u,xs[j]?=some u->∃b,a=some ⟨b,0,none⟩/\v.ownBlock=some b/\w₀.cell? ⟨b,j,none⟩=some u:=by
 have h2:=h.2;rcases h2 with⟨hv,h0⟩ | ⟨g,cap,cur,hv,hg,_,hc,_⟩
 ·refine⟨none,0,by rw[hv,h0],⟨omz,λ_=>rfl⟩,λj u hu=>?_⟩
  have hl:=h.1;rw[h0,Nat.zero_mul] at hl;rw[List.length_eq_zero_iff.1 hl] at hu;simp at hu
 ·refine⟨_,cap,hv,⟨hc,λe=>by cases e⟩,λj u hu=>⟨g,rfl,by rw[hv];rfl,?_⟩⟩
  have:=h.cells (g:=g) (by rw[hv];rfl) j u hu
  rwa [add_plain] at this
def NOk (Low:Nat)(w₀:World)(m:Ah):Prop:=MOk w₀ 0 m/\∀x∈m.vals,∀k,x.ownBlock=some k->k<Low
def Vu (w:World)(b o:Nat)(t:Ah):Prop:=w.cell? ⟨b,o,none⟩=some (.int .i64 t.kind)/\w.cell? ⟨b,o+1,none⟩=some (.int .i64 t.op)/\w.cell? ⟨b,o+2,none⟩=some t.av/\w.cell? ⟨b,o+3,none⟩=some t.kv
def A3a (Low:Nat)(O:Nat->Prop)(w:World)(a:Option Addr)(ts:List Ah):Prop:=∀i (h:i<ts.length),∃b o,a=some ⟨b,o,none⟩/\(O b\/b<Low)/\Vu w b (o+i*4) ts[i]
section
variable {Low : Nat}{w₀ w w' : World}{O O' : Nat -> Prop}
theorem Vu.ext {b o:Nat}{t:Ah}(h:Vu w b o t)(k:Ext Low O O' w w')(hb:O b\/b<Low):Vu w' b o t:=
 ⟨(k.cell hb _).trans h.1,(k.cell hb _).trans h.2.1,(k.cell hb _).trans h.2.2.1,(k.cell hb _).trans h.2.2.2⟩
theorem Vu.held {b o:Nat}{t:Ah}(h:Vu w₀ b o t)(k:Held Low w₀ O w)(hb:b<Low):Vu w b o t:=
 ⟨(k.down hb _).trans h.1,(k.down hb _).trans h.2.1,(k.down hb _).trans h.2.2.1,(k.down hb _).trans h.2.2.2⟩
theorem NOk.devs {m:Ah}(h:NOk Low w₀ m):∃a cap,m.av=.slice a m.ds.length cap:=by
 obtain⟨a,cap,e,_⟩:=P8 ((H5 _ _ _).1 h.1).1;exact⟨a,cap,e⟩
theorem NOk.kids {m:Ah}(h:NOk Low w₀ m):∃(a:Option Addr) (cap:Nat),m.kv=.slice a m.kids.length cap/\Aa6 a m.kids.length cap/\(∀t∈m.kids,NOk Low w₀ t)/\
  ∀i (h:i<m.kids.length),∃b o,a=some ⟨b,o,none⟩/\b<Low/\Vu w₀ b (o+i*4) m.kids[i]:=by
 obtain⟨_,hk,ho⟩:=(H5 _ _ _).1 h.1;obtain⟨a,cap,e,hq,hc⟩:=P8 hk;refine⟨a,cap,e,hq,λt ht=>⟨ho t ht,λx hx k hk=>h.2 x ?_ k hk⟩,λi hi=>?_⟩
 ·rw[Ah.vals_eq]
  exact A4c _ (A4c _ (Jc.2 ⟨t,ht,hx⟩))
 ·obtain⟨g0,g1,g2,g3⟩:=Jj m.kids i hi
  obtain⟨b,ha,hb,c0⟩:=hc _ _ g0;obtain⟨b1,ha1,_,c1⟩:=hc _ _ g1;obtain⟨b2,ha2,_,c2⟩:=hc _ _ g2;obtain⟨b3,sG,_,c3⟩:=hc _ _ g3;rw[ha] at ha1 ha2 sG;cases ha1;cases ha2;cases sG;refine⟨b,0,ha,h.2 m.kv (by rw[Ah.vals_eq];simp) b hb,?_⟩;unfold Vu;rw[A4h];exact⟨c0,c1,c2,c3⟩
end
variable {Low c : Nat}
set_option maxRecDepth 100000 in
set_option maxHeartbeats 2000000 in
theorem Aza (w₀:World)(t:Ah)(ht:NOk Low w₀ t)(hla:t.ds.length<=1048576)(hlk:t.kids.length<=1048576):∃ts:List Ah,ts.map Ah.net=Di t.net/\(∀x∈ts,NOk Low w₀ x)/\(Ew ts).Sublist t.vals/\∀vs O w,Held Low w₀ O w->
  J6 Tryz.prog (okS Tryz.prog Low c) 94 #[.agg #[.int .i64 t.kind, .int .i64 t.op,t.av,t.kv]] vs O w λv x' O' w'=>x'=vs/\(∃a cap,v=.slice a ts.length cap/\A3a Low O' w' a ts)/\Ext Low O O' w w'/\Held Low w₀ O' w':=by
 obtain⟨p0,r0,hv0⟩:=ht.devs;obtain⟨p1,r1,hv1,hq1,hko,hkc⟩:=ht.kids;have bQ:=t.vals_eq;have lS:=t.net_eq;obtain⟨n,rfl⟩:∃n,n=t:=⟨_,rfl⟩
 rw[hv0,hv1];have xM:Hid (Aq n.net=((n.kind==0 && (n.op==0 && n.ds.length==0)) && n.kids.length==0)):=by
  show _=_
  rw[lS];unfold Aq;simp only[Bool.and_assoc,A4o]
 have HB:Hid (Di n.net=if Aq n.net then [] else if n.kind=2 then n.kids.map Ah.net else [n.net]):=by
  show _=_
  unfold Di;rw[lS]
 clear lS hq1
 have HN:Hid (∀vs O W,Held Low w₀ O W->J6 Tryz.prog (okS Tryz.prog Low c) 73 #[.agg #[.int .i64 n.kind, .int .i64 n.op, .slice p0 n.ds.length r0, .slice p1 n.kids.length r1]] vs O W
   λv x' O' w'=>v=.bool (Aq n.net)/\x'=vs/\Ext Low O O' W w'/\Held Low w₀ O' w'):=λvs O W h=>by rw[xM.out];exact Ay9 _ _ _ _ _ _ _ _ hla hlk w₀ vs O W h
 obtain⟨bb,hbb⟩:∃bb,bb=Aq n.net:=⟨_,rfl⟩
 rw[<-hbb] at HN HB;have HV0:=hid hv0;have HV1:=hid hv1;have eF:=hid bQ;clear hbb xM hv0 hv1 bQ;have hres:=resultsC_tmp (P:=Tryz.prog) (fn:=Tryz.f94) rfl;cases bb with
 | true=>
  refine⟨[],by rw[HB.out];rfl,spz,List.nil_sublist _,λvs O w hF=>?_⟩;refine He Tryz.func94 rrz rfl ?_;simp only[Tryz.ntmps94,A4b,A39,A4a,Nat.reduceAdd,Nat.reduceSub,A41,A42,A47,A44,A4z,A4y];refine Jl (Bg _ _ _) ?_
  (refine Fe (Bg _ _ _) ?_;simp only[A4b,A39,A4a,Nat.reduceAdd,A4h,List.range,List.range.loop])
  refine kB hF #[.int .i64 n.kind, .int .i64 n.op, .slice p0 n.ds.length r0, .slice p1 n.kids.length r1] 52 λO1 W1 b1 hE1 hF1 aZ hL1 bH=>?_
  try walk_nrm
  have _Y:=cs4 bH;refine kW ?_;clear _Y
  (refine Gl (Bg _ _ _) rfl rrz rfl (HN _ _ _ hF1) (by simp[Act.eval]) ?_;rintro _ _ O2 W2 ⟨rfl,rfl,hE2,hF2⟩;try walk_nrm)
  refine kW ?_;exact⟨rfl,_,hres _,rfl,⟨none,0,rfl,λi hi=>by simp at hi⟩,hE1.trans hE2,hF2⟩
 | false=>
  by_cases h2:n.kind=2
  ·refine⟨n.kids,by rw[HB.out];simp[h2],hko,by rw[eF.out];exact((List.Sublist.refl _).cons _).cons _,λvs O w hF=>?_⟩
   rw[h2] at HN ⊢;refine He Tryz.func94 rrz rfl ?_;simp only[Tryz.ntmps94,A4b,A39,A4a,Nat.reduceAdd,Nat.reduceSub,A41,A42,A47,A44,A4z,A4y];refine Jl (Bg _ _ _) ?_
   (refine Fe (Bg _ _ _) ?_;simp only[A4b,A39,A4a,Nat.reduceAdd,A4h,List.range,List.range.loop])
   refine kB hF #[.int .i64 2, .int .i64 n.op, .slice p0 n.ds.length r0, .slice p1 n.kids.length r1] 52 λO1 W1 b1 hE1 hF1 aZ hL1 bH=>?_
   try walk_nrm
   have _Y:=cs4 bH;refine kW ?_;clear _Y
   (refine Gl (Bg _ _ _) rfl rrz rfl (HN _ _ _ hF1) (by simp[Act.eval]) ?_;rintro _ _ O2 W2 ⟨rfl,rfl,hE2,hF2⟩;try walk_nrm)
   replace bH:=Ag1 bH hE2 aZ;replace aZ:=hE2.own _ aZ;have _Y:=cs4 bH;refine kW ?_;clear _Y;refine⟨rfl,_,hres _,rfl,⟨p1,r1,rfl,λi hi=>?_⟩,hE1.trans hE2,hF2⟩;obtain⟨b,o,ha,hb,hc⟩:=hkc i hi;exact⟨b,o,ha, .inr hb,hc.held hF2 hb⟩
  ·refine⟨[n],by rw[HB.out];simp[h2],λx hx=>by rw[List.mem_singleton.1 hx];exact ht,by rw[Je];exact List.Sublist.refl _,λvs O w hF=>?_⟩
   have hkb:(n.kind==2)=false:=by rw[A5a];exact h2
   clear hkc;refine He Tryz.func94 rrz rfl ?_;simp only[Tryz.ntmps94,A4b,A39,A4a,Nat.reduceAdd,Nat.reduceSub,A41,A42,A47,A44,A4z,A4y];refine Jl (Bg _ _ _) ?_
   (refine Fe (Bg _ _ _) ?_;simp only[A4b,A39,A4a,Nat.reduceAdd,A4h,List.range,List.range.loop])
   refine kB hF #[.int .i64 n.kind, .int .i64 n.op, .slice p0 n.ds.length r0, .slice p1 n.kids.length r1] 52 λO1 W1 b1 hE1 hF1 aZ hL1 bH=>?_
   try walk_nrm
   have _Y:=cs4 bH;refine kW ?_;clear _Y
   (refine Gl (Bg _ _ _) rfl rrz rfl (HN _ _ _ hF1) (by simp[Act.eval]) ?_;rintro _ _ O2 W2 ⟨rfl,rfl,hE2,hF2⟩;try walk_nrm)
   replace bH:=Ag1 bH hE2 aZ;replace aZ:=hE2.own _ aZ;have _Y:=cs4 bH;refine kW ?_;clear _Y;refine Kz (Bg _ _ _) rfl rrz ?_ ?_
   ·intro _;simp[go_sem];done
   intro w₁ hR K hK;go_simp;refine hK _ _ ?_;clear hK K;obtain⟨O3,eO,gW,hF3,hO3,hL3,rX⟩:=boxed hF2 hR #[.int .i64 n.kind, .int .i64 n.op, .slice p0 n.ds.length r0, .slice p1 n.kids.length r1] 52;rw[<-eO];clear eO
   revert gW hF3 hO3 hL3 rX
   generalize w₁.alloc (.cells #[.int .i64 n.kind, .int .i64 n.op, .slice p0 n.ds.length r0, .slice p1 n.kids.length r1] 52)=W3;generalize w₁.heap.size=b3;intro gW hF3 hO3 hL3 rX;have wU:=hid rX;clear rX hR w₁;try walk_nrm
   refine kW ?_;refine⟨rfl,_,hres _,rfl,⟨some ⟨b3,0,none⟩,1,rfl,λi hi=>?_⟩,(hE1.trans hE2).trans gW,hF3⟩;have hi0:i=0:=by simp at hi;exact hi
   subst hi0;refine⟨b3,0,rfl, .inl hO3,wU _ (Keep.refl _ _ _) 0,wU _ (Keep.refl _ _ _) 1,?_,?_⟩
   ·rw[show([n]:List Ah)[0].av=_ from HV0.out];exact wU _ (Keep.refl _ _ _) 2
   ·rw[show([n]:List Ah)[0].kv=_ from HV1.out];exact wU _ (Keep.refl _ _ _) 3
end Go.Proofs.YtbfljjcnbbmoaaaGreatDoor
