import Derived.Test.YtbfljjcnbbmoaaaGreatDoorCE3b
import Derived.Test.YtbfljjcnbbmoaaaGreatDoorS30
import Derived.Test.YtbfljjcnbbmoaaaGreatDoorCI3
import Derived.Test.YtbfljjcnbbmoaaaGreatDoorCE6
import Derived.Test.YtbfljjcnbbmoaaaGreatDoorGb
import Derived.Test.YtbfljjcnbbmoaaaGreatDoorGq
namespace Go.Proofs.YtbfljjcnbbmoaaaGreatDoor
open Stil
open Go.RowKit Go.Sort Go.BigFrame Go.Conc Go.Co
variable {Low c : Nat}
theorem G6 {τ:Type} {P:Program} {ok:τ->(Nat->Prop)->World->Goroutine->Prop} {f:FuncId} {F:Func} {cd:Code} {args:Array Value} {x:τ} {O:Nat->Prop} {w:World} {Post:Value->τ->(Nat->Prop)->World->Prop}
  (hf:P.funcs[f]?=some F) (hname:(F.name== "runtime.NumGoroutine")=false) (hb:F.body=some cd) (h:WpK ok f cd (Ajx P F Post) {tmps:=args++Array.replicate (F.ntmps - args.size) undef,defers:=[]} x O w):Jv P ok f args x O w Post:=⟨F,cd,hf,hname,hb,h⟩
def v0 (c:Int):Value:=.agg #[.int .i64 c, .int .i64 0, .slice none 0 0]
set_option maxRecDepth 100000 in
set_option maxHeartbeats 1000000 in
theorem A25 (n i:Nat) (hi:i<n) (hn:n<=1000000) (vs:List Value) (O:Nat->Prop) (w:World):
  Jv Tryz.prog (okS Tryz.prog Low c) 93 #[.chan (some c), .int .i64 i, .int .i64 n] ((Em n i).map (λx=>v0 x.code)++vs) O w λ_ x' O' w'=>x'=vs/\O'=O/\w'=w:=by
 have hres:=resultsC_none (P:=Tryz.prog) (fn:=Tryz.f93) rfl;by_cases h1:n=1
 ·have e1:((n:Int)==1)=true:=by simp[h1]
  have el:Em n i=[]:=by simp[Em,h1]
  rw[el,List.map_nil,A44];clear el;refine G6 Tryz.func93 (by rfl) rfl ?_;simp only[Tryz.ntmps93,A4g,A4e,A4f,Nat.reduceAdd,Nat.reduceSub,A46,A47,A5c,A49,A44,A43];refine kW ?_;exact⟨rfl,_,hres _,rfl,rfl,rfl⟩
 have e1:((n:Int)==1)=false:=by rw[A5f];omega
 by_cases h2:i=0
 ·have e2:((i:Int)==0)=true:=by simp[h2]
  have el:Em n i=[Md 7]:=by simp[Em,h1,h2]
  rw[el,A4v,List.map_nil,A43,A44];clear el;simp only[v0,Md];refine G6 Tryz.func93 (by rfl) rfl ?_;simp only[Tryz.ntmps93,A4g,A4e,A4f,Nat.reduceAdd,Nat.reduceSub,A46,A47,A5c,A49,A44,A43];refine kW ?_;exact⟨rfl,_,hres _,rfl,rfl,rfl⟩
 have e2:((i:Int)==0)=false:=by rw[A5f];omega
 have hwr:IntKind.i64.wrap ((n:Int) - 1)=(n:Int) - 1:=by rw[IntKind.wrap_i64];omega
 by_cases h3:i+1=n
 ·have e3:((i:Int)==(n:Int) - 1)=true:=by rw[beq_iff_eq];omega
  have el:Em n i=[Md 9]:=by simp[Em,h1,h2,h3]
  rw[el,A4v,List.map_nil,A43,A44];clear el;simp only[v0,Md];refine G6 Tryz.func93 (by rfl) rfl ?_;simp only[Tryz.ntmps93,A4g,A4e,A4f,Nat.reduceAdd,Nat.reduceSub,A46,A47,A5c,A49,A44,A43];refine kW ?_;exact⟨rfl,_,hres _,rfl,rfl,rfl⟩
 have e3:((i:Int)==(n:Int) - 1)=false:=by rw[A5f];omega
 have el:Em n i=[Md 8]:=by simp[Em,h1,h2,h3]
 rw[el,A4v,List.map_nil,A43,A44];clear el;simp only[v0,Md];refine G6 Tryz.func93 (by rfl) rfl ?_;simp only[Tryz.ntmps93,A4g,A4e,A4f,Nat.reduceAdd,Nat.reduceSub,A46,A47,A5c,A49,A44,A43];refine kW ?_;exact⟨rfl,_,hres _,rfl,rfl,rfl⟩
end Go.Proofs.YtbfljjcnbbmoaaaGreatDoor
set_option maxHeartbeats 4000000
set_option maxRecDepth 100000
namespace Go.Proofs.YtbfljjcnbbmoaaaGreatDoor
open Go.RowKit Go.Sort Go.BigFrame Go.Conc Go.Co
variable {Low c : Nat}
theorem A33 (n:Nat):((n:Int)==0)=(n==0):=by rw[Bool.eq_iff_iff,beq_iff_eq,beq_iff_eq];omega
theorem Av5 (op:Int) (a:Option Addr) (ln cap:Nat) (_h:ln<=1048576) (w₀:World) (vs:List Value) (O:Nat->Prop) (w:World) (hF:Held Low w₀ O w):
  Jv Tryz.prog (okS Tryz.prog Low c) 97 #[.agg #[.int .i64 op, .slice a ln cap]] vs O w λv x' O' w'=>v=.bool (op==0 && ln==0)/\x'=vs/\Ext Low O O' w w'/\Held Low w₀ O' w':=by
 have hres:=resultsC_tmp (P:=Tryz.prog) (fn:=Tryz.f97) rfl;by_cases h0:op=0
 ·subst h0
  refine G6 Tryz.func97 (by rfl) rfl ?_;simp only[Tryz.ntmps97,A4g,A4e,A4f,Nat.reduceAdd,Nat.reduceSub,A46,A47,A5c,A49,A44,A43];refine Jb (Be _ _ _) ?_
  (refine Es (Be _ _ _) ?_;simp only[A4g,A4e,A4f,Nat.reduceAdd,A4m,List.range,List.range.loop])
  refine kB hF #[.int .i64 0, .slice a ln cap] 49 λO1 W1 b1 hE1 hF1 hO1 hL1 HC1=>?_
  try walk_nrm
  have _Y:=cs2 HC1;refine kW ?_;clear _Y;exact⟨rfl,_,hres _,by simp[A33],rfl,hE1,hF1⟩
 ·have h1:(op==0)=false:=by rw[A5f];exact h0
  refine G6 Tryz.func97 (by rfl) rfl ?_;simp only[Tryz.ntmps97,A4g,A4e,A4f,Nat.reduceAdd,Nat.reduceSub,A46,A47,A5c,A49,A44,A43];refine Jb (Be _ _ _) ?_
  (refine Es (Be _ _ _) ?_;simp only[A4g,A4e,A4f,Nat.reduceAdd,A4m,List.range,List.range.loop])
  refine kB hF #[.int .i64 op, .slice a ln cap] 49 λO1 W1 b1 hE1 hF1 hO1 hL1 HC1=>?_
  try walk_nrm
  have _Y:=cs2 HC1;refine kW ?_;clear _Y;exact⟨rfl,_,hres _,by simp[h1],rfl,hE1,hF1⟩
theorem Ayw (k op:Int) (p0:Option Addr) (la r0:Nat) (p1:Option Addr) (lk r1:Nat) (hla:la<=1048576) (_hlk:lk<=1048576) (w₀:World) (vs:List Value) (O:Nat->Prop) (w:World) (hF:Held Low w₀ O w):
  Jv Tryz.prog (okS Tryz.prog Low c) 73 #[.agg #[.int .i64 k, .int .i64 op, .slice p0 la r0, .slice p1 lk r1]] vs O w
   λv x' O' w'=>v=.bool ((k==0 && (op==0 && la==0)) && lk==0)/\x'=vs/\Ext Low O O' w w'/\Held Low w₀ O' w':=by
 have hres:=resultsC_tmp (P:=Tryz.prog) (fn:=Tryz.f73) rfl;by_cases h0:k=0
 ·subst h0
  have HN:Hid (∀O W,Held Low w₀ O W->Jv Tryz.prog (okS Tryz.prog Low c) 97 #[.agg #[.int .i64 op, .slice p0 la r0]] vs O W λv x' O' w'=>v=.bool (op==0 && la==0)/\x'=vs/\Ext Low O O' W w'/\Held Low w₀ O' w'):=λO W h=>Av5 op p0 la r0 hla w₀ vs O W h
  obtain⟨bb,hbb⟩:∃bb,bb=(op==0 && la==0):=⟨_,rfl⟩
  rw[<-hbb] at HN ⊢;clear hbb;refine G6 Tryz.func73 (by rfl) rfl ?_;simp only[Tryz.ntmps73,A4g,A4e,A4f,Nat.reduceAdd,Nat.reduceSub,A46,A47,A5c,A49,A44,A43];refine Jb (Be _ _ _) ?_
  (refine Es (Be _ _ _) ?_;simp only[A4g,A4e,A4f,Nat.reduceAdd,A4m,List.range,List.range.loop])
  refine kB hF #[.int .i64 0, .int .i64 op, .slice p0 la r0, .slice p1 lk r1] 52 λO1 W1 b1 hE1 hF1 hO1 hL1 HC1=>?_
  try walk_nrm
  have _Y:=cs4 HC1;refine kW ?_;clear _Y;cases bb with
  | false=>
   (refine F8 (Be _ _ _) rfl (by rfl) rfl (HN.out _ _ hF1) (by simp[Act.eval]) ?_;rintro _ _ O2 W2 ⟨rfl,rfl,hE2,hF2⟩;try walk_nrm)
   refine kW ?_;exact⟨rfl,_,hres _,by simp,rfl,hE1.trans hE2,hF2⟩
  | true=>
   (refine F8 (Be _ _ _) rfl (by rfl) rfl (HN.out _ _ hF1) (by simp[Act.eval]) ?_;rintro _ _ O2 W2 ⟨rfl,rfl,hE2,hF2⟩;try walk_nrm)
   replace HC1:Hid (∀W,Keep Low O2 W2 W->∀k,W.cell? ⟨b1,k,none⟩=(#[.int .i64 0, .int .i64 op, .slice p0 la r0, .slice p1 lk r1]:Array Value)[k]?):=λW hW k=>(hW.ext.cell (.inl (hE2.own _ hO1)) k).trans ((hE2.cell (.inl hO1) k).trans (HC1.out _ (Keep.refl _ _ _) k))
   replace hO1:=hE2.own _ hO1;have _Y:=cs4 HC1;refine kW ?_;clear _Y;exact⟨rfl,_,hres _,by simp[A33],rfl,hE1.trans hE2,hF2⟩
 ·have h1:(k==0)=false:=by rw[A5f];exact h0
  refine G6 Tryz.func73 (by rfl) rfl ?_;simp only[Tryz.ntmps73,A4g,A4e,A4f,Nat.reduceAdd,Nat.reduceSub,A46,A47,A5c,A49,A44,A43];refine Jb (Be _ _ _) ?_
  (refine Es (Be _ _ _) ?_;simp only[A4g,A4e,A4f,Nat.reduceAdd,A4m,List.range,List.range.loop])
  refine kB hF #[.int .i64 k, .int .i64 op, .slice p0 la r0, .slice p1 lk r1] 52 λO1 W1 b1 hE1 hF1 hO1 hL1 HC1=>?_
  try walk_nrm
  have _Y:=cs4 HC1;refine kW ?_;clear _Y;exact⟨rfl,_,hres _,by simp[h1],rfl,hE1,hF1⟩
end Go.Proofs.YtbfljjcnbbmoaaaGreatDoor
namespace Go.Proofs.YtbfljjcnbbmoaaaGreatDoor
open Stil
open Go.RowKit Go.Sort Go.BigFrame Go.Conc Go.Co
theorem Pi {w₀:World} {e:TypeId} {s n:Nat} {v:Value} {xs:List Value} (h:w₀.ownsRow 0 e s v n xs):∃a cap,v=.slice a n cap/\Aai a n cap/\∀j u,xs[j]?=some u->∃b,a=some ⟨b,0,none⟩/\v.ownBlock=some b/\w₀.cell? ⟨b,j,none⟩=some u:=by
 have h2:=h.2;rcases h2 with⟨hv,h0⟩ | ⟨g,cap,cur,hv,hg,_,hc,_⟩
 ·refine⟨none,0,by rw[hv,h0],⟨by omega,λ_=>rfl⟩,λj u hu=>?_⟩
  have hl:=h.1;rw[h0,Nat.zero_mul] at hl;rw[List.length_eq_zero_iff.1 hl] at hu;simp at hu
 ·refine⟨_,cap,hv,⟨hc,λe=>by cases e⟩,λj u hu=>⟨g,rfl,by rw[hv];rfl,?_⟩⟩
  have:=h.cells (g:=g) (by rw[hv];rfl) j u hu
  rwa [add_plain] at this
def NOk (Low:Nat) (w₀:World) (m:Ah):Prop:=MOk w₀ 0 m/\∀x∈m.vals,∀k,x.ownBlock=some k->k<Low
def U9 (w:World) (b o:Nat) (t:Ah):Prop:=w.cell? ⟨b,o,none⟩=some (.int .i64 t.kind)/\w.cell? ⟨b,o+1,none⟩=some (.int .i64 t.op)/\w.cell? ⟨b,o+2,none⟩=some t.av/\w.cell? ⟨b,o+3,none⟩=some t.kv
def Awb (Low:Nat) (O:Nat->Prop) (w:World) (a:Option Addr) (ts:List Ah):Prop:=∀i (h:i<ts.length),∃b o,a=some ⟨b,o,none⟩/\(O b\/b<Low)/\U9 w b (o+i*4) ts[i]
section
variable {Low : Nat} {w₀ w w' : World} {O O' : Nat -> Prop}
theorem U9.ext {b o:Nat} {t:Ah} (h:U9 w b o t) (k:Ext Low O O' w w') (hb:O b\/b<Low):U9 w' b o t:=
 ⟨(k.cell hb _).trans h.1,(k.cell hb _).trans h.2.1,(k.cell hb _).trans h.2.2.1,(k.cell hb _).trans h.2.2.2⟩
theorem Awb.ext {a:Option Addr} {ts:List Ah} (h:Awb Low O w a ts) (k:Ext Low O O' w w'):Awb Low O' w' a ts:=by
 intro i hi;obtain⟨b,o,ha,hb,hc⟩:=h i hi;exact⟨b,o,ha,hb.imp (k.own b) id,hc.ext k hb⟩
theorem U9.held {b o:Nat} {t:Ah} (h:U9 w₀ b o t) (k:Held Low w₀ O w) (hb:b<Low):U9 w b o t:=
 ⟨(k.down hb _).trans h.1,(k.down hb _).trans h.2.1,(k.down hb _).trans h.2.2.1,(k.down hb _).trans h.2.2.2⟩
theorem NOk.devs {m:Ah} (h:NOk Low w₀ m):∃a cap,m.av=.slice a m.ds.length cap:=by
 obtain⟨a,cap,e,_⟩:=Pi ((Hq _ _ _).1 h.1).1;exact⟨a,cap,e⟩
theorem NOk.kids {m:Ah} (h:NOk Low w₀ m):∃(a:Option Addr) (cap:Nat),m.kv=.slice a m.kids.length cap/\Aai a m.kids.length cap/\(∀t∈m.kids,NOk Low w₀ t)/\
  ∀i (h:i<m.kids.length),∃b o,a=some ⟨b,o,none⟩/\b<Low/\U9 w₀ b (o+i*4) m.kids[i]:=by
 obtain⟨_,hk,ho⟩:=(Hq _ _ _).1 h.1;obtain⟨a,cap,e,hq,hc⟩:=Pi hk;refine⟨a,cap,e,hq,λt ht=>⟨ho t ht,λx hx k hk=>h.2 x ?_ k hk⟩,λi hi=>?_⟩
 ·rw[Ah.vals_eq]
  exact A4h _ (A4h _ (Iw.2 ⟨t,ht,hx⟩))
 ·obtain⟨g0,g1,g2,g3⟩:=I9 m.kids i hi
  obtain⟨b,ha,hb,c0⟩:=hc _ _ g0;obtain⟨b1,ha1,_,c1⟩:=hc _ _ g1;obtain⟨b2,ha2,_,c2⟩:=hc _ _ g2;obtain⟨b3,ha3,_,c3⟩:=hc _ _ g3;rw[ha] at ha1 ha2 ha3;cases ha1;cases ha2;cases ha3;refine⟨b,0,ha,h.2 m.kv (by rw[Ah.vals_eq];simp) b hb,?_⟩;unfold U9;rw[A4m];exact⟨c0,c1,c2,c3⟩
end
variable {Low c : Nat}
set_option maxRecDepth 100000 in
set_option maxHeartbeats 2000000 in
theorem Ayx (w₀:World) (t:Ah) (ht:NOk Low w₀ t) (hla:t.ds.length<=1048576) (hlk:t.kids.length<=1048576):∃ts:List Ah,ts.map Ah.net=Fv t.net/\(∀x∈ts,NOk Low w₀ x)/\(Eh ts).Sublist t.vals/\∀vs O w,Held Low w₀ O w->
  Jv Tryz.prog (okS Tryz.prog Low c) 94 #[.agg #[.int .i64 t.kind, .int .i64 t.op,t.av,t.kv]] vs O w λv x' O' w'=>x'=vs/\(∃a cap,v=.slice a ts.length cap/\Awb Low O' w' a ts)/\Ext Low O O' w w'/\Held Low w₀ O' w':=by
 obtain⟨p0,r0,hv0⟩:=ht.devs;obtain⟨p1,r1,hv1,hq1,hko,hkc⟩:=ht.kids;have hvals:=t.vals_eq;have hnet:=t.net_eq;obtain⟨n,rfl⟩:∃n,n=t:=⟨_,rfl⟩
 rw[hv0,hv1];have HNN:Hid (Aq n.net=((n.kind==0 && (n.op==0 && n.ds.length==0)) && n.kids.length==0)):=by
  show _=_
  rw[hnet];unfold Aq;simp only[Bool.and_assoc,A4t]
 have HB:Hid (Fv n.net=if Aq n.net then [] else if n.kind=2 then n.kids.map Ah.net else [n.net]):=by
  show _=_
  unfold Fv;rw[hnet]
 clear hnet hq1
 have HN:Hid (∀vs O W,Held Low w₀ O W->Jv Tryz.prog (okS Tryz.prog Low c) 73 #[.agg #[.int .i64 n.kind, .int .i64 n.op, .slice p0 n.ds.length r0, .slice p1 n.kids.length r1]] vs O W
   λv x' O' w'=>v=.bool (Aq n.net)/\x'=vs/\Ext Low O O' W w'/\Held Low w₀ O' w'):=λvs O W h=>by rw[HNN.out];exact Ayw _ _ _ _ _ _ _ _ hla hlk w₀ vs O W h
 obtain⟨bb,hbb⟩:∃bb,bb=Aq n.net:=⟨_,rfl⟩
 rw[<-hbb] at HN HB;have HV0:=hid hv0;have HV1:=hid hv1;have HVS:=hid hvals;clear hbb HNN hv0 hv1 hvals;have hres:=resultsC_tmp (P:=Tryz.prog) (fn:=Tryz.f94) rfl;cases bb with
 | true=>
  refine⟨[],by rw[HB.out];rfl,by simp,List.nil_sublist _,λvs O w hF=>?_⟩;refine G6 Tryz.func94 (by rfl) rfl ?_;simp only[Tryz.ntmps94,A4g,A4e,A4f,Nat.reduceAdd,Nat.reduceSub,A46,A47,A5c,A49,A44,A43];refine Jb (Be _ _ _) ?_
  (refine Es (Be _ _ _) ?_;simp only[A4g,A4e,A4f,Nat.reduceAdd,A4m,List.range,List.range.loop])
  refine kB hF #[.int .i64 n.kind, .int .i64 n.op, .slice p0 n.ds.length r0, .slice p1 n.kids.length r1] 52 λO1 W1 b1 hE1 hF1 hO1 hL1 HC1=>?_
  try walk_nrm
  have _Y:=cs4 HC1;refine kW ?_;clear _Y
  (refine F8 (Be _ _ _) rfl (by rfl) rfl (HN.out _ _ _ hF1) (by simp[Act.eval]) ?_;rintro _ _ O2 W2 ⟨rfl,rfl,hE2,hF2⟩;try walk_nrm)
  refine kW ?_;exact⟨rfl,_,hres _,rfl,⟨none,0,rfl,λi hi=>by simp at hi⟩,hE1.trans hE2,hF2⟩
 | false=>
  by_cases h2:n.kind=2
  ·refine⟨n.kids,by rw[HB.out];simp[h2],hko,by rw[HVS.out];exact((List.Sublist.refl _).cons _).cons _,λvs O w hF=>?_⟩
   rw[h2] at HN ⊢;refine G6 Tryz.func94 (by rfl) rfl ?_;simp only[Tryz.ntmps94,A4g,A4e,A4f,Nat.reduceAdd,Nat.reduceSub,A46,A47,A5c,A49,A44,A43];refine Jb (Be _ _ _) ?_
   (refine Es (Be _ _ _) ?_;simp only[A4g,A4e,A4f,Nat.reduceAdd,A4m,List.range,List.range.loop])
   refine kB hF #[.int .i64 2, .int .i64 n.op, .slice p0 n.ds.length r0, .slice p1 n.kids.length r1] 52 λO1 W1 b1 hE1 hF1 hO1 hL1 HC1=>?_
   try walk_nrm
   have _Y:=cs4 HC1;refine kW ?_;clear _Y
   (refine F8 (Be _ _ _) rfl (by rfl) rfl (HN.out _ _ _ hF1) (by simp[Act.eval]) ?_;rintro _ _ O2 W2 ⟨rfl,rfl,hE2,hF2⟩;try walk_nrm)
   replace HC1:=Af9 HC1 hE2 hO1;replace hO1:=hE2.own _ hO1;have _Y:=cs4 HC1;refine kW ?_;clear _Y;refine⟨rfl,_,hres _,rfl,⟨p1,r1,rfl,λi hi=>?_⟩,hE1.trans hE2,hF2⟩;obtain⟨b,o,ha,hb,hc⟩:=hkc i hi;exact⟨b,o,ha, .inr hb,hc.held hF2 hb⟩
  ·refine⟨[n],by rw[HB.out];simp[h2],λx hx=>by rw[List.mem_singleton.1 hx];exact ht,by rw[Iz];exact List.Sublist.refl _,λvs O w hF=>?_⟩
   have hkb:(n.kind==2)=false:=by rw[A5f];exact h2
   clear hkc;refine G6 Tryz.func94 (by rfl) rfl ?_;simp only[Tryz.ntmps94,A4g,A4e,A4f,Nat.reduceAdd,Nat.reduceSub,A46,A47,A5c,A49,A44,A43];refine Jb (Be _ _ _) ?_
   (refine Es (Be _ _ _) ?_;simp only[A4g,A4e,A4f,Nat.reduceAdd,A4m,List.range,List.range.loop])
   refine kB hF #[.int .i64 n.kind, .int .i64 n.op, .slice p0 n.ds.length r0, .slice p1 n.kids.length r1] 52 λO1 W1 b1 hE1 hF1 hO1 hL1 HC1=>?_
   try walk_nrm
   have _Y:=cs4 HC1;refine kW ?_;clear _Y
   (refine F8 (Be _ _ _) rfl (by rfl) rfl (HN.out _ _ _ hF1) (by simp[Act.eval]) ?_;rintro _ _ O2 W2 ⟨rfl,rfl,hE2,hF2⟩;try walk_nrm)
   replace HC1:=Af9 HC1 hE2 hO1;replace hO1:=hE2.own _ hO1;have _Y:=cs4 HC1;refine kW ?_;clear _Y;refine J7 (Be _ _ _) rfl (by rfl) ?_ ?_
   ·intro _;simp[go_sem];done
   intro w₁ hR K hK;go_simp;refine hK _ _ ?_;clear hK K;obtain⟨O3,eO,hE3,hF3,hO3,hL3,HC3'⟩:=boxed hF2 hR #[.int .i64 n.kind, .int .i64 n.op, .slice p0 n.ds.length r0, .slice p1 n.kids.length r1] 52;rw[<-eO];clear eO
   revert hE3 hF3 hO3 hL3 HC3'
   generalize w₁.alloc (.cells #[.int .i64 n.kind, .int .i64 n.op, .slice p0 n.ds.length r0, .slice p1 n.kids.length r1] 52)=W3;generalize w₁.heap.size=b3;intro hE3 hF3 hO3 hL3 HC3';have HC3:=hid HC3';clear HC3' hR w₁;try walk_nrm
   refine kW ?_;refine⟨rfl,_,hres _,rfl,⟨some ⟨b3,0,none⟩,1,rfl,λi hi=>?_⟩,(hE1.trans hE2).trans hE3,hF3⟩;have hi0:i=0:=by simp at hi;exact hi
   subst hi0;refine⟨b3,0,rfl, .inl hO3,HC3.out _ (Keep.refl _ _ _) 0,HC3.out _ (Keep.refl _ _ _) 1,?_,?_⟩
   ·rw[show([n]:List Ah)[0].av=_ from HV0.out];exact HC3.out _ (Keep.refl _ _ _) 2
   ·rw[show([n]:List Ah)[0].kv=_ from HV1.out];exact HC3.out _ (Keep.refl _ _ _) 3
end Go.Proofs.YtbfljjcnbbmoaaaGreatDoor
namespace Go.Proofs.YtbfljjcnbbmoaaaGreatDoor
open Go.RowKit Go.Sort Go.BigFrame Go.Conc Go.Co
variable {Low c : Nat}
def Ads (Low c:Nat) (w₀:World) (t:Ah) (vs:List MI):Prop:=∀rest O w,Held Low w₀ O w->
 Jv Tryz.prog (okS Tryz.prog Low c) 67 #[.chan (some c), .agg #[.int .i64 t.kind, .int .i64 t.op,t.av,t.kv]] (vs.map MI.val++rest) O w λ_ x' O' w'=>x'=rest/\Ext Low O O' w w'/\Held Low w₀ O' w'
def Aby (k:Int) (t:Ah) (vs:List MI):List MI:=if t.kind=1 then [⟨k,⟨t.op,t.ds,t.av⟩⟩] else vs++[mi0 (k+2)]
set_option maxRecDepth 100000 in
set_option maxHeartbeats 2000000 in
theorem Azx (w₀:World) (k:Int) (hk:k=2\/k=3) (ts:List Ah) (f:Ah->List MI) (hts:∀t∈ts,NOk Low w₀ t) (hB:∀t∈ts,t.kind≠1->Ads Low c w₀ t (f t)) (hl:ts.length<=1048576) (rest:List Value) (O:Nat->Prop) (w:World) (hF:Held Low w₀ O w) (a:Option Addr) (cap:Nat) (hr:Awb Low O w a ts):
  Jv Tryz.prog (okS Tryz.prog Low c) 92 #[.chan (some c), .int .i64 k, .slice a ts.length cap] ((ts.map λt=>(Aby k t (f t)).map MI.val).flatten++rest) O w λ_ x' O' w'=>x'=rest/\Ext Low O O' w w'/\Held Low w₀ O' w':=by
 have hres:=resultsC_none (P:=Tryz.prog) (fn:=Tryz.f92) rfl;refine G6 Tryz.func92 (by rfl) rfl ?_;simp only[Tryz.ntmps92,A4g,A4e,A4f,Nat.reduceAdd,Nat.reduceSub,A46,A47,A5c,A49,A44,A43];refine kW ?_;refine Az5 (λa' x' O' w'=>∃u10 u11,a'=⟨#[.chan (some c), .int .i64 k, .slice a ts.length cap,undef,undef,undef, .int .i64 k, .int .i64 (k+2),undef,undef,u10,u11,undef,undef,undef,undef,undef,undef,undef,undef,undef,undef,undef,undef,undef,undef,undef,undef,undef,undef,undef,undef,undef],[]⟩/\x'=(ts.map λt=>(Aby k t (f t)).map MI.val).flatten++rest/\O=O'/\w=w') ?_ ?_
 ·rcases hk with rfl | rfl
  ·refine kW ?_
   exact⟨_,_,rfl,by first | rfl | trivial,by first | rfl | trivial,by first | rfl | trivial⟩
  ·refine kW ?_
   exact⟨_,_,rfl,by first | rfl | trivial,by first | rfl | trivial,by first | rfl | trivial⟩
 rintro _ _ _ _ ⟨u10,u11,rfl,rfl,rfl,rfl⟩;refine kW ?_
 refine V4 (Be _ _ _) (λn a' x' O' w'=>∃(j:Nat) (u9 u15 u16 u17 u18 u19 u20 u21 u22 u23 u24 u25 u26 u27 u28 u29 u30 u31 u32:Value),j<=ts.length/\n=ts.length - j/\a'=⟨#[.chan (some c), .int .i64 k, .slice a ts.length cap,undef,undef,undef, .int .i64 k, .int .i64 (k+2),undef,u9,u10,u11, .slice a ts.length cap, .int .i64 ts.length, .int .i64 j,u15,u16,u17,u18,u19,u20,u21,u22,u23,u24,u25,u26,u27,u28,u29,u30,u31,u32],[]⟩/\
  x'=((ts.drop j).map λt=>(Aby k t (f t)).map MI.val).flatten++rest/\Ext Low O O' w w'/\Held Low w₀ O' w') ts.length ⟨0,undef,undef,undef,undef,undef,undef,undef,undef,undef,undef,undef,undef,undef,undef,undef,undef,undef,undef,undef,Nat.zero_le _,rfl,rfl,rfl,Ext.refl _ _ _,hF⟩ ?_
 rintro n _ _ O1 W1 ⟨j,u9,u15,u16,u17,u18,u19,u20,u21,u22,u23,u24,u25,u26,u27,u28,u29,u30,u31,u32,hj,rfl,rfl,rfl,hE1,hF1⟩;dsimp only;by_cases hlt:j<ts.length
 ·have hlt':(j:Int)<(ts.length:Int):=by omega
  obtain⟨b,o,rfl,hb,hc⟩:=hr j hlt;have hm:=A4k hlt;have hdr:=List.drop_eq_getElem_cons hlt;have ht:=hts _ hm;have hBt:=hB _ hm;rw[hdr]
  revert hc ht hBt
  generalize ts[j]=t;intro hc ht hBt;obtain⟨p0,r0,hv0⟩:=ht.devs;obtain⟨p1,r1,hv1,_⟩:=ht.kids;clear ht;obtain⟨n,op,ds,av,kv,kids⟩:=t;dsimp only at hv0 hv1 hBt;subst hv0 hv1;replace hc:=hc.ext hE1 hb;have hb1:=hb.imp (hE1.own b) id;have HCN:=hid (λW (hW:Keep Low O1 W1 W)=>hc.ext hW.ext hb1);clear hc hdr hm hr hB hts;have _Y:=HCN.out;have _B:=hb1;simp only[U9] at _Y;refine kW ?_;clear _Y _B;refine J7 (Be _ _ _) rfl (by rfl) ?_ ?_
  ·intro _;simp[go_sem];done
  intro w₁ hR K hK;go_simp;refine hK _ _ ?_;clear hK K;obtain⟨O2,eO,hE2,hF2,hO2,hL2,hN2,hH2⟩:=Ajw hF1 hR #[.int .i64 0, .int .i64 0, .slice none 0 0, .slice none 0 0] 52;rw[<-eO];clear eO
  revert hE2 hF2 hO2 hL2 hN2 hH2
  generalize w₁.alloc (.cells #[.int .i64 0, .int .i64 0, .slice none 0 0, .slice none 0 0] 52)=W2;generalize w₁.heap.size=b2;intro hE2 hF2 hO2 hL2 hN2 hH2;replace hE2:=hE1.trans hE2;replace hN2 :=λx hx=>hN2 x (hE1.own x hx)
  clear hR w₁;try walk_nrm
  refine Vh (Be _ _ _) b2 hO2 rfl (by rfl) ?_ ?_
  ·intro w₁ hR e he
   have hh:=(hR.mine _ hO2).trans hH2;have y0:w₁.cell? ⟨b2,0,none⟩=some (.int .i64 0):=cell_of_heap hh 0;have z0:=frozen_of_heap hh 0;have y1:w₁.cell? ⟨b2,1,none⟩=some (.int .i64 0):=cell_of_heap hh 1;have z1:=frozen_of_heap hh 1;have y2:w₁.cell? ⟨b2,2,none⟩=some (.slice none 0 0):=cell_of_heap hh 2;have z2:=frozen_of_heap hh 2;have y3:w₁.cell? ⟨b2,3,none⟩=some (.slice none 0 0):=cell_of_heap hh 3;have z3:=frozen_of_heap hh 3;clear hh;simp[go_sem,events_store_slice,storedEv, *] at he
   (first | (subst he;exact⟨_,_,rfl, .inl hO2⟩) | (rcases he with rfl | rfl<;>exact⟨_,_,rfl, .inl hO2⟩) | (rcases he with rfl | rfl | rfl | rfl<;>exact⟨_,_,rfl, .inl hO2⟩) | (rcases he with rfl | rfl | rfl | rfl | rfl | rfl<;>exact⟨_,_,rfl, .inl hO2⟩))
  intro w₁ hR K hK;have hh:=(hR.mine _ hO2).trans hH2;have y0:w₁.cell? ⟨b2,0,none⟩=some (.int .i64 0):=cell_of_heap hh 0;have z0:=frozen_of_heap hh 0;have y1:w₁.cell? ⟨b2,1,none⟩=some (.int .i64 0):=cell_of_heap hh 1;have z1:=frozen_of_heap hh 1;have y2:w₁.cell? ⟨b2,2,none⟩=some (.slice none 0 0):=cell_of_heap hh 2;have z2:=frozen_of_heap hh 2;have y3:w₁.cell? ⟨b2,3,none⟩=some (.slice none 0 0):=cell_of_heap hh 3;have z3:=frozen_of_heap hh 3;clear hh;go_simp;try (unfold stored;go_simp)
  have hh:=(hR.mine _ hO2).trans hH2;have hp:Put b2 w₁ ((((w₁.setCell ⟨b2,0,none⟩ (.int .i64 n)).setCell ⟨b2,1,none⟩ (.int .i64 op)).setCell ⟨b2,2,none⟩ (.slice p0 ds.length r0)).setCell ⟨b2,3,none⟩ (.slice p1 kids.length r1)):=(((((Put.refl _ _).set 0 (.int .i64 n)).set 1 (.int .i64 op)).set 2 (.slice p0 ds.length r0)).set 3 (.slice p1 kids.length r1))
  have hh2:((((w₁.setCell ⟨b2,0,none⟩ (.int .i64 n)).setCell ⟨b2,1,none⟩ (.int .i64 op)).setCell ⟨b2,2,none⟩ (.slice p0 ds.length r0)).setCell ⟨b2,3,none⟩ (.slice p1 kids.length r1)).heap[b2]?=some (.cells #[.int .i64 n, .int .i64 op, .slice p0 ds.length r0, .slice p1 kids.length r1] 52):=(heap_setCell (heap_setCell (heap_setCell (heap_setCell hh 0 (.int .i64 n)) 1 (.int .i64 op)) 2 (.slice p0 ds.length r0)) 3 (.slice p1 kids.length r1))
  refine hK _ _ hp ?_;clear hK K hh y0 z0 y1 z1 y2 z2 y3 z3 hH2;replace hE2:=(hE2.rely hR).put hp hL2 hN2;replace hF2:=(hF2.rely hR).put hp hL2
  revert hE2 hF2 hh2
  clear hp hR;generalize ((((w₁.setCell ⟨b2,0,none⟩ (.int .i64 n)).setCell ⟨b2,1,none⟩ (.int .i64 op)).setCell ⟨b2,2,none⟩ (.slice p0 ds.length r0)).setCell ⟨b2,3,none⟩ (.slice p1 kids.length r1))=W2;intro hh2 hE2 hF2;have HC2:Hid (∀W,Keep Low O2 W2 W->∀ii,W.cell? ⟨b2,ii,none⟩=(#[.int .i64 n, .int .i64 op, .slice p0 ds.length r0, .slice p1 kids.length r1]:Array Value)[ii]?):=λW hW ii=>(hW.ext.cell (.inl hO2) ii).trans (cell_of_heap hh2 ii)
  clear hh2;try walk_nrm
  have hwj:IntKind.i64.wrap ((j:Int)+1)=((j+1:Nat):Int):=by rw[IntKind.wrap_i64];omega
  clear hb1 hE1 hF1 hb HCN;by_cases h1:n=1
  ·have e1:(n==1)=true:=by rw[beq_iff_eq];exact h1
   rw[List.flatten_cons,Aby,if_pos h1,A4v,List.map_nil,MI.val,A43,A44,A43];have _Y:=cs4 HC2;refine kW ?_;clear _Y;exact⟨ts.length - (j+1),by omega,j+1,_,_,_,_,_,_,_,_,_,_,_,_,_,_,_,_,_,_,_,by omega,rfl,rfl,rfl,hE2,hF2⟩
  ·have e1:(n==1)=false:=by rw[A5f];exact h1
   have hBC:=hBt h1;rw[List.flatten_cons,Aby,if_neg h1,A4r,A4v,List.map_nil,A41,A41,A43,A44];have _Y:=cs4 HC2;refine kW ?_;clear _Y
   (refine F8 (Be _ _ _) rfl (by rfl) rfl (hBC _ _ _ hF2) (by simp[Act.eval]) ?_;rintro _ _ O3 W3 ⟨rfl,hE3,hF3⟩;try walk_nrm)
   simp only[MI.val,mi0];refine kW ?_;exact⟨ts.length - (j+1),by omega,j+1,_,_,_,_,_,_,_,_,_,_,_,_,_,_,_,_,_,_,_,by omega,rfl,rfl,rfl,hE2.trans hE3,hF3⟩
 ·have hge:¬(j:Int)<(ts.length:Int):=by omega
  have hd:ts.drop j=[]:=List.drop_eq_nil_of_le (by omega);rw[hd];refine kW ?_;exact⟨rfl,_,hres _,rfl,hE1,hF1⟩
end Go.Proofs.YtbfljjcnbbmoaaaGreatDoor
