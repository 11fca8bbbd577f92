import Derived.Test.YtbfljjcnbbmoaaaGreatDoorGC
import Derived.ProofKit
import Derived.OpenShut
import Derived.OpenVars
import Derived.LaidMore
import Derived.Lay
import Derived.Deep.DeepHandedRow
import Derived.Lib.SmallJoins
import Derived.Test.YtbfljjcnbbmoaaaGreatDoorGJ
import Derived.Test.YtbfljjcnbbmoaaaGreatDoorGY
import Derived.LaidHandle
import Derived.Test.YtbfljjcnbbmoaaaGreatDoorGU
namespace Go.Proofs.YtbfljjcnbbmoaaaGreatDoor
open Go.ChangeShapes Go.WideShapes Go.ChangeAt Go.RowKit
variable {W:World}{v:Value}
theorem A26:Tryz.prog.cellsOf 3=1:=krz
theorem lt_of_cell {b o:Nat}(h:W.cell? ⟨b,o,none⟩=some v):b<W.heap.size:=by
 unfold World.cell? at h;cases hh:W.heap[b]? with
 | none=>simp[hh] at h
 | some x=>exact(Array.getElem?_eq_some_iff.1 hh).1
theorem A35:Tryz.prog.cellsOf 152=3:=krz
theorem wf_i64 {n:Int}(h:(Lit.int .i64 n).wf=true):-9223372036854775808<=n/\n<=9223372036854775807:=by
 simpa[Lit.wf,IntKind.min,IntKind.max,IntKind.signed,IntKind.bits] using h
theorem Ajt {H:Type}{enc:TypeId × Value->H}{fuel:Nat}{x:DataW H × List MemPlace}(h:DataW.trod enc Tryz.prog W 0 (λ_=>true) true fuel 36 [v]=some x):
  ∃ds:List Stil.Dev,Bi W v ds/\(∀d∈ds,d.fits)/\ds.length<=maxLen:=by
 rcases Deep.open_slice Tryz.underlying36 h with⟨hv,_⟩ | ⟨a,len,cap,m,n,D,Pl,hv,_,hlc,hcap,hm,_,hx⟩
 ·obtain rfl:v=.slice none 0 0:=by simpa using hv
  exact⟨[],⟨none,0,rfl,λi h=>absurd h spz⟩,spz,spz⟩
 ·obtain rfl:v=.slice (some a) len cap:=by simpa using hv
  have hlm:len<=m:=by rw[hm];split<;>omega
  have each:∀i,i<len->∃d:Stil.Dev,d.fits/\W.cell? (a.add (i*3))=some (.int .i64 d.kind)/\W.cell? (a.add (i*3+1))=some (.int .i64 d.n)/\W.cell? (a.add (i*3+2))=some (.int .i64 d.p):=by
   intro i hi;obtain⟨cs',h1,h2⟩:=hx i omz;rw[A35] at h1;obtain⟨_,hlen,hcell⟩:=World.cells?_some h1;obtain⟨y0,y1,y2,k,_,_,t0,t1,t2⟩:=Deep.trod_struct3 Tryz.underlying152 h2;dsimp only at t0 t1 t2;rw[A26] at t0 t1 t2;obtain⟨n0,a0,_,w0⟩:=DataW.trod_int Tryz.underlying3 t0;obtain⟨n1,a1,_,w1⟩:=DataW.trod_int Tryz.underlying3 t1;obtain⟨n2,a2,_,w2⟩:=DataW.trod_int Tryz.underlying3 t2;have at':∀(j:Nat) (z:Value),j<3->List.take 1 (List.drop j cs')=[z]->W.cell? (a.add (i*3+j))=some z:=by
    intro j z hj hz;have e1:=hcell j hj;rw[Addr.add_add] at e1;rw[e1];have:=congrArg (λl=>l[0]?) hz
    simpa[List.getElem?_take,List.getElem?_drop] using this
   exact⟨⟨n0,n1,n2⟩,⟨wf_i64 w0,wf_i64 w1,wf_i64 w2⟩,at' 0 _ omz a0,at' 1 _ omz a1,at' 2 _ omz a2⟩
  haveI:Inhabited Stil.Dev:=⟨⟨0,0,0⟩⟩
  obtain⟨f,hf⟩:=Deep.choose_lt each;refine⟨(List.range len).map f,?_,?_,?_⟩
  ·refine⟨some a,cap,spz,λi hi=>?_⟩
   have hi':i<len:=by simpa using hi
   obtain⟨_,c0,c1,c2⟩:=hf i hi';obtain⟨b,o,sp⟩:=a;have hsp:sp=none:=by
    have hk:0<len:=omz
    have:=(hf 0 hk).2.1
    simpa[Addr.add] using World.cell?_spot this
   subst hsp;rw[Addr.add_lit] at c0 c1 c2;refine⟨b,o,rfl,lt_of_cell c0,?_⟩;simp only[List.getElem_map,List.getElem_range];exact⟨c0,by rw[Nat.add_assoc];exact c1,by rw[Nat.add_assoc];exact c2⟩
  ·intro d hd
   obtain⟨i,hi,rfl⟩:=List.mem_map.1 hd;exact(hf i (by simpa using hi)).1
  ·simp;omega
end Go.Proofs.YtbfljjcnbbmoaaaGreatDoor
namespace Go.Proofs.YtbfljjcnbbmoaaaGreatDoor
open Stil
open Go.ChangeShapes Go.WideShapes Go.ChangeAt Go.RowKit
variable {W:World}
theorem Au4 {P:Program}:∀{l:List (String × DataW Unit)} {ps:List MemPlace},DataW.LaidVars P W l ps->∀{n:String} {d:DataW Unit},(n,d)∈l->
  ∃g t cs fuel p,P.globalNamed n=some g/\(P.globals[g]?).map (·.type)=some t/\W.var? P n=some cs/\DataW.trod (λ_=>()) P W 0 (λ_=>true) false fuel t cs.toList=some (d,p)
 | [],_,_,_,_,hm=>absurd hm spz
 | (n',d')::r,ps,⟨g,t,cs,fuel,p,q,h1,h2,h3,h4,hs,_⟩,n,d,hm=>by
  rcases List.mem_cons.1 hm with e | hr
  ·obtain⟨rfl,rfl⟩:=Prod.mk.inj e
   exact⟨g,t,cs,fuel,p,h1,h2,h3,h4⟩
  ·exact Au4 hs hr
def Anj (k:Nat):DataW Unit:=.agg [.lit (.string (O7 k).data.toList), .lit (.int .i64 (Jw k)), .lit (.bool (X3 k)), .lit (.bool (Oj k)), .lit (.bool (S9 k))]
theorem A2v:Tryz.prog.globalNamed "loop.example/stilway/impl.devRows" =some 1:=krz
theorem Av0:(Tryz.prog.globals[1]?).map (·.type)=some 204:=krz
theorem A34:Tryz.prog.cellsOf 198=5:=krz
theorem A1y:Tryz.prog.cellsOf 4=1:=krz
theorem A1w:Tryz.prog.cellsOf 9=1:=krz
theorem Azb {s:ByteArray}{b:ByteArray}(h:s.data.toList=b.data.toList):s=b:=by
 cases s;cases b;simp at h;rw[h]
theorem Alf {cs:Array Value}{fuel:Nat}{p:List MemPlace}(hv:W.var? Tryz.prog "loop.example/stilway/impl.devRows" =some cs)
  (hd:DataW.trod (λ_=>()) Tryz.prog W 0 (λ_=>true) false fuel 204 cs.toList=some (.agg ((List.range 14).map Anj),p)):Es W:=by
 have hcell:=λj=>World.var?_cell A2v hv j
 obtain⟨xs,m,_,ex,hlen,hl,hel⟩:=DataW.trod_array Tryz.underlying204 hd;have e1:=DataW.agg.inj (Prod.mk.inj ex).1;have hall:∀k:Nat,k<14->W.cell? ⟨1,k*5,none⟩=some (.string (O7 k))/\W.cell? ⟨1,k*5+1,none⟩=some (.int .i64 (Jw k))/\W.cell? ⟨1,k*5+2,none⟩=some (.bool (X3 k))/\W.cell? ⟨1,k*5+3,none⟩=some (.bool (Oj k))/\W.cell? ⟨1,k*5+4,none⟩=some (.bool (S9 k)):=by
  intro k hk;have hxk:k<xs.length:=omz
  have hk1:=hel k hk;rw[A34,A4p hxk] at hk1;have e2:xs[k].1=Anj k:=by
   have:=congrArg (λl=>l[k]?) e1
   simp only[List.getElem?_map,A4p hxk,Option.map_some] at this;rw[A4p (by simpa using hk)] at this;simpa using(Option.some.inj this).symm
  obtain⟨ys,n,_,ey,hlen2,hl2,hf⟩:=DataW.trod_struct Tryz.underlying198 hk1;have e3:ys.map (·.1)=[.lit (.string (O7 k).data.toList), .lit (.int .i64 (Jw k)), .lit (.bool (X3 k)), .lit (.bool (Oj k)), .lit (.bool (S9 k))]:=by
   have h5:=congrArg Prod.fst ey;rw[e2,Anj] at h5;exact(DataW.agg.inj h5).symm
  obtain⟨y0,y1,y2,y3,y4,rfl⟩:∃y0 y1 y2 y3 y4,ys=[y0,y1,y2,y3,y4]:=by
   match ys,hl2 with
   | [y0,y1,y2,y3,y4],_=>exact⟨_,_,_,_,_,rfl⟩
  simp only[A4q,List.map_nil,List.cons.injEq,and_true] at e3;obtain⟨z0,z1,z2,z3,z4⟩:=e3;have g0:DataW.trod (λ_=>()) Tryz.prog W 0 (λ_=>true) false n 9 (List.take 1 (List.drop 0 (List.take 5 (List.drop (k*5) cs.toList))))=some y0:=by
   have h:DataW.trod (λ_=>()) Tryz.prog W 0 (λ_=>true) false n 9 (List.take (Tryz.prog.cellsOf 9) (List.drop 0 (List.take 5 (List.drop (k*5) cs.toList))))=some y0:=hf 0 _ rfl;rw[A1w] at h;exact h
  have g1:DataW.trod (λ_=>()) Tryz.prog W 0 (λ_=>true) false n 3 (List.take 1 (List.drop 1 (List.take 5 (List.drop (k*5) cs.toList))))=some y1:=by
   have h:DataW.trod (λ_=>()) Tryz.prog W 0 (λ_=>true) false n 3 (List.take (Tryz.prog.cellsOf 3) (List.drop 1 (List.take 5 (List.drop (k*5) cs.toList))))=some y1:=hf 1 _ rfl;rw[A26] at h;exact h
  have g2:DataW.trod (λ_=>()) Tryz.prog W 0 (λ_=>true) false n 4 (List.take 1 (List.drop 2 (List.take 5 (List.drop (k*5) cs.toList))))=some y2:=by
   have h:DataW.trod (λ_=>()) Tryz.prog W 0 (λ_=>true) false n 4 (List.take (Tryz.prog.cellsOf 4) (List.drop 2 (List.take 5 (List.drop (k*5) cs.toList))))=some y2:=hf 2 _ rfl;rw[A1y] at h;exact h
  have g3:DataW.trod (λ_=>()) Tryz.prog W 0 (λ_=>true) false n 4 (List.take 1 (List.drop 3 (List.take 5 (List.drop (k*5) cs.toList))))=some y3:=by
   have h:DataW.trod (λ_=>()) Tryz.prog W 0 (λ_=>true) false n 4 (List.take (Tryz.prog.cellsOf 4) (List.drop 3 (List.take 5 (List.drop (k*5) cs.toList))))=some y3:=hf 3 _ rfl;rw[A1y] at h;exact h
  have g4:DataW.trod (λ_=>()) Tryz.prog W 0 (λ_=>true) false n 4 (List.take 1 (List.drop 4 (List.take 5 (List.drop (k*5) cs.toList))))=some y4:=by
   have h:DataW.trod (λ_=>()) Tryz.prog W 0 (λ_=>true) false n 4 (List.take (Tryz.prog.cellsOf 4) (List.drop 4 (List.take 5 (List.drop (k*5) cs.toList))))=some y4:=hf 4 _ rfl;rw[A1y] at h;exact h
  obtain⟨s0,a0,b0,_⟩:=DataW.trod_string Tryz.underlying9 g0;obtain⟨s1,a1,b1,_⟩:=DataW.trod_int Tryz.underlying3 g1;obtain⟨s2,a2,b2⟩:=DataW.trod_bool Tryz.underlying4 g2;obtain⟨s3,a3,b3⟩:=DataW.trod_bool Tryz.underlying4 g3;obtain⟨s4,a4,b4⟩:=DataW.trod_bool Tryz.underlying4 g4;subst b0 b1 b2 b3 b4;simp only[DataW.lit.injEq,Lit.string.injEq,Lit.int.injEq,Lit.bool.injEq,true_and] at z0 z1 z2 z3 z4;have z0':=Azb z0;subst z0' z1 z2 z3 z4;have at':∀(j:Nat) (v:Value),j<5->List.take 1 (List.drop j (List.take 5 (List.drop (k*5) cs.toList)))=[v]->W.cell? ⟨1,k*5+j,none⟩=some v:=by
   intro j v hj h;rw[hcell];have:=congrArg (λl=>l[0]?) h
   simpa[List.getElem?_take,List.getElem?_drop,hj] using this
  exact⟨at' 0 _ omz a0,at' 1 _ omz a1,at' 2 _ omz a2,at' 3 _ omz a3,at' 4 _ omz a4⟩
 refine⟨?_,hall⟩;have:=(hall 0 omz).1
 exact lt_of_cell this
theorem Aim {l:List (String × DataW Unit)}(h:laidMet Tryz.prog l W)(hm:("loop.example/stilway/impl.devRows",DataW.agg ((List.range 14).map Anj))∈l):Es W:=by
 obtain⟨ps,hl,_,_⟩:=h;obtain⟨g,t,cs,fuel,p,h1,h2,h3,h4⟩:=Au4 hl hm;obtain rfl:=Option.some.inj (A2v.symm.trans h1);obtain rfl:=Option.some.inj (Av0.symm.trans h2);exact Alf h3 h4
end Go.Proofs.YtbfljjcnbbmoaaaGreatDoor
namespace Go.Proofs.YtbfljjcnbbmoaaaGreatDoor
open Go.ChangeShapes Go.WideShapes Go.ChangeAt Go.RowKit
theorem etG:Tryz.prog.globalNamed "errors.errorType" =some 0:=krz
theorem A33:(Tryz.prog.cutTypes.find? (·.1== "internal/reflectlite.rtype")).map (·.2)=some 156:=krz
theorem A3u:((List.range Tryz.prog.types.size).filter λt=>Tryz.prog.rowNamed t [101,114,114,111,114])=[113]:=krz
theorem Aml {W:World}(h:handlesMet Tryz.prog [("errors.errorType",DataW.iface "internal/reflectlite.rtype" (.agg [.ptr (.lit (.string [101,114,114,111,114]))]))] W):Et W:=by
 obtain⟨name,u,ty,e1,e2,e3,e4,e5⟩:=h _ (List.mem_singleton.2 rfl);have en:=(Option.some.inj e1).symm;subst en;obtain rfl:=Option.some.inj (A33.symm.trans e2);have hm:ty∈(List.range Tryz.prog.types.size).filter λt=>Tryz.prog.rowNamed t [101,114,114,111,114]:=List.mem_filter.2 ⟨List.mem_range.2 e3,e4⟩
 rw[A3u] at hm;obtain rfl:=List.mem_singleton.1 hm;have hh:typeHandle Tryz.prog 113=.pointer (some ⟨3,113,none⟩):=krz
 rw[hh] at e5;have hc:=World.var?_cell etG e5 0;unfold Et;simpa using hc
end Go.Proofs.YtbfljjcnbbmoaaaGreatDoor
namespace Go.Proofs.YtbfljjcnbbmoaaaGreatDoor
open Stil
open Go.ChangeShapes Go.WideShapes Go.ChangeAt Go.RowKit
variable {H:Type}{W:World}{e:TypeId}{fuel:Nat}{u0 u1 v:Value}
theorem Auq {enc:TypeId × Value->H}{P:Program}{base:Nat}{spare:Nat->Bool}{held:Bool}{t:TypeId}{cs:List Value}{x:DataW H × List MemPlace}(ht:P.underlying t=some (.slice e))(h:DataW.trod enc P W base spare held fuel t cs=some x):
  cs=[.slice none 0 0]\/∃(a:Addr) (len cap n:Nat),n<fuel/\cs=[.slice (some a) len cap]/\len<=maxLen/\
   ∀i,i<len->∃cs' y,W.cells? base (a.add (i*P.cellsOf e)) (P.cellsOf e)=some cs'/\DataW.trod enc P W base spare held n e cs'=some y:=by
 rcases DataW.trod_slice ht h with h0 | ⟨a,len,cap,elems,rest,n,hn,hcs,_,_,hl,hm,hlen,hel,_,_⟩
 ·exact Or.inl h0.1
 ·refine Or.inr ⟨a,len,cap,n,omz,hcs,omz,λi hi=>?_⟩
  have h1:=hel i hi;rw[A4p omz] at h1;obtain⟨cs',h2,h3⟩:=Option.bind_eq_some_iff.1 h1;exact⟨cs',_,h2,h3⟩
theorem Yj {α:Type}[Inhabited α]{enc:TypeId × Value->H}{t:TypeId}{x:DataW H × List MemPlace}(c:Nat)(Q:α->Nat->Nat->Prop)(ht:Tryz.prog.underlying t=some (.slice e))(hc:Tryz.prog.cellsOf e=c)(hc0:0<c)
  (each:∀n,n<fuel->∀cs y,cs.length=c->DataW.trod enc Tryz.prog W 0 (λ_=>true) true n e cs=some y->∃z:α,∀b o,(∀j u,cs[j]?=some u->W.cell? ⟨b,o+j,none⟩=some u)->Q z b o)
  (h:DataW.trod enc Tryz.prog W 0 (λ_=>true) true fuel t [v]=some x):
  ∃l:List α,(∃a cap,v=.slice a l.length cap/\∀i (h:i<l.length),∃b o,a=some ⟨b,o,none⟩/\b<W.heap.size/\Q l[i] b (o+i*c))/\l.length<=maxLen:=by
 rcases Auq ht h with hv | ⟨a,len,cap,n,hn,hv,hm,hx⟩
 ·obtain rfl:v=.slice none 0 0:=by simpa using hv
  exact⟨[],⟨none,0,rfl,λi h=>absurd h spz⟩,spz⟩
 ·obtain rfl:v=.slice (some a) len cap:=by simpa using hv
  have hspot:0<len->a.spot=none:=by
   intro h0;obtain⟨cs',y,h1,h2⟩:=hx 0 h0;rw[hc] at h1;obtain⟨_,hlen,hcell⟩:=World.cells?_some h1;have h3:=hcell 0 hc0;rw[A4p omz] at h3;have:=World.cell?_spot h3
   simpa[Addr.add] using this
  have ea:∀i,i<len->∃z:α,a.block<W.heap.size/\Q z a.block (a.off+i*c):=by
   intro i hi;obtain⟨cs',y,h1,h2⟩:=hx i hi;rw[hc] at h1;obtain⟨_,hlen,hcell⟩:=World.cells?_some h1;obtain⟨z,hz⟩:=each n hn cs' y hlen h2;have h0:=hcell 0 hc0;rw[A4p omz] at h0;have hsp:=hspot omz;obtain⟨b,o,sp⟩:=a;simp only at hsp;subst hsp;rw[Addr.add_lit,Addr.add_lit] at h0;refine⟨z,lt_of_cell h0,hz _ _ (λj u hu=>?_)⟩;have hj:j<c:=by
    have:=(List.getElem?_eq_some_iff.1 hu).1
    omega
   have:=hcell j hj
   rw[Addr.add_lit,Addr.add_lit] at this;rw[this];exact hu
  obtain⟨f,hf⟩:=Deep.choose_lt ea;refine⟨(List.range len).map f,⟨some a,cap,spz,λi hi=>?_⟩,by simpa using hm⟩;have hi':i<len:=by simpa using hi
  obtain⟨h2,h3⟩:=hf i hi';have h1:=hspot omz;obtain⟨b,o,sp⟩:=a;simp only at h1;subst h1;refine⟨b,o,rfl,h2,?_⟩;simpa using h3
theorem A1x:Tryz.prog.cellsOf 38=2:=krz
theorem A3z:Tryz.prog.cellsOf 41=4:=krz
theorem A36:Tryz.prog.cellsOf 44=6:=krz
theorem A25:Tryz.prog.cellsOf 39=1:=krz
theorem A27:Tryz.prog.cellsOf 42=1:=krz
theorem A3w:Tryz.prog.cellsOf 22=1:=krz
theorem A3v:Tryz.prog.cellsOf 36=1:=krz
theorem Wl {enc:TypeId × Value->H}{x:DataW H × List MemPlace}(h:DataW.trod enc Tryz.prog W 0 (λ_=>true) true fuel 38 [u0,u1]=some x):
  ∃e:Stil.Elem,u0=.int .i64 e.op/\Bi W u1 e.args/\e.wf:=by
 obtain⟨xs,n,_,_,_,hl,hf⟩:=DataW.trod_struct Tryz.underlying38 h
 match xs,hl with
 | [y0,y1],_=>
  have t0:DataW.trod enc Tryz.prog W 0 (λ_=>true) true n 3 (List.take (Tryz.prog.cellsOf 3) (List.drop 0 [u0,u1]))=some y0:=hf 0 _ rfl;have t1:DataW.trod enc Tryz.prog W 0 (λ_=>true) true n 36 (List.take (Tryz.prog.cellsOf 36) (List.drop 1 [u0,u1]))=some y1:=hf 1 _ rfl;rw[A26] at t0;rw[A3v] at t1;obtain⟨op,hop,_,hw⟩:=DataW.trod_int Tryz.underlying3 t0;obtain rfl:u0=.int .i64 op:=by simpa using hop
  obtain⟨ds,hd,hfit,hlen⟩:=Ajt (v:=u1) t1;exact⟨⟨op,ds⟩,rfl,hd,wf_i64 hw,A4k hlen dcz,hfit⟩
theorem Ahd {enc:TypeId × Value->H}{x:DataW H × List MemPlace}(h:DataW.trod enc Tryz.prog W 0 (λ_=>true) true fuel 42 [v]=some x):
  ∃es:List Stil.Elem,En W v es/\(∀e∈es,e.wf)/\es.length<=9223372036854775807:=by
 haveI:Inhabited Stil.Elem:=⟨⟨0,[]⟩⟩
 obtain⟨l,⟨a,cap,hv,hl⟩,hlen⟩:=Yj 2 (λ(z:Stil.Elem) b o=>Agl W b o z/\z.wf) Tryz.underlying42 A1x omz (by
  intro n _ cs y hcs ht
  match cs,hcs with
  | [u0,u1],_=>
   obtain⟨e,h0,h1,h2⟩:=Wl ht;refine⟨e,λb o hc=>⟨⟨?_,u1,hc 1 u1 rfl,h1⟩,h2⟩⟩;have:=hc 0 u0 rfl
   rw[<-h0];exact this) h
 refine⟨l,⟨a,cap,hv,λi hi=>?_⟩,λe he=>?_,A4k hlen dcz⟩
 ·obtain⟨b,o,h1,h2,h3,_⟩:=hl i hi
  exact⟨b,o,h1,h2,h3⟩
 ·obtain⟨i,hi,rfl⟩:=List.getElem_of_mem he
  obtain⟨b,o,h1,h2,_,h3⟩:=hl i hi;exact h3
theorem Ai7 {enc:TypeId × Value->H}:∀(fuel:Nat) (v:Value) (x:DataW H × List MemPlace),DataW.trod enc Tryz.prog W 0 (λ_=>true) true fuel 39 [v]=some x->
  ∃ns:List Stil.Net,Dx W v ns/\(∀n∈ns,Adi n)/\ns.length<=9223372036854775807:=by
 intro fuel;induction fuel using Nat.strongRecOn with
 | _ fuel ih=>
  intro v x h
  haveI:Inhabited Stil.Net:=⟨⟨0,⟨0,[]⟩,[]⟩⟩
  obtain⟨l,⟨a,cap,hv,hl⟩,hlen⟩:=Yj 4 (λ(z:Stil.Net) b o=>Nw W b o z/\Adi z) Tryz.underlying39 A3z omz (by
   intro n hn cs y hcs ht
   match cs,hcs with
   | [u0,u1,u2,u3],_=>
    obtain⟨xs,n',hn',_,_,hl,hf⟩:=DataW.trod_struct Tryz.underlying41 ht
    match xs,hl with
    | [y0,y1,y2],_=>
     have t0:DataW.trod enc Tryz.prog W 0 (λ_=>true) true n' 3 (List.take (Tryz.prog.cellsOf 3) (List.drop 0 [u0,u1,u2,u3]))=some y0:=hf 0 _ rfl;have t1:DataW.trod enc Tryz.prog W 0 (λ_=>true) true n' 38 (List.take (Tryz.prog.cellsOf 38) (List.drop 1 [u0,u1,u2,u3]))=some y1:=hf 1 _ rfl;have t2:DataW.trod enc Tryz.prog W 0 (λ_=>true) true n' 39 (List.take (Tryz.prog.cellsOf 39) (List.drop 3 [u0,u1,u2,u3]))=some y2:=hf 2 _ rfl;rw[A26] at t0;rw[A1x] at t1;rw[A25] at t2;obtain⟨k,hk,_,hw⟩:=DataW.trod_int Tryz.underlying3 t0;obtain rfl:u0=.int .i64 k:=by simpa using hk
     obtain⟨e,he,hd,hef⟩:=Wl (u0:=u1) (u1:=u2) t1;obtain⟨ks,hks,bK,hkl⟩:=ih n' omz u3 y2 t2;refine⟨⟨k,e,ks⟩,λb o hc=>⟨(Aek _ _ _ _ _ _).2 ⟨hc 0 _ rfl,?_,⟨u2,hc 2 _ rfl,hd⟩,u3,hc 3 _ rfl,hks⟩,(Ab4 _ _ _).2 ⟨wf_i64 hw,hef,hkl,bK⟩⟩⟩
     rw[<-he];exact hc 1 _ rfl) h
  refine⟨l,⟨a,cap,hv,λi hi=>?_⟩,λe he=>?_,A4k hlen dcz⟩
  ·obtain⟨b,o,h1,h2,h3,_⟩:=hl i hi
   exact⟨b,o,h1,h2,h3⟩
  ·obtain⟨i,hi,rfl⟩:=List.getElem_of_mem he
   obtain⟨b,o,h1,h2,_,h3⟩:=hl i hi;exact h3
theorem Aly {enc:TypeId × Value->H}{n:Nat}{u2 u3:Value}{y:DataW H × List MemPlace}(ht:DataW.trod enc Tryz.prog W 0 (λ_=>true) true n 41 [u0,u1,u2,u3]=some y):
  ∃nt:Stil.Net,u0=.int .i64 nt.kind/\u1=.int .i64 nt.one.op/\Bi W u2 nt.one.args/\Dx W u3 nt.kids/\Adi nt:=by
 obtain⟨xs,n',hn',_,_,hl,hf⟩:=DataW.trod_struct Tryz.underlying41 ht
 match xs,hl with
 | [y0,y1,y2],_=>
  have t0:DataW.trod enc Tryz.prog W 0 (λ_=>true) true n' 3 (List.take (Tryz.prog.cellsOf 3) (List.drop 0 [u0,u1,u2,u3]))=some y0:=hf 0 _ rfl;have t1:DataW.trod enc Tryz.prog W 0 (λ_=>true) true n' 38 (List.take (Tryz.prog.cellsOf 38) (List.drop 1 [u0,u1,u2,u3]))=some y1:=hf 1 _ rfl;have t2:DataW.trod enc Tryz.prog W 0 (λ_=>true) true n' 39 (List.take (Tryz.prog.cellsOf 39) (List.drop 3 [u0,u1,u2,u3]))=some y2:=hf 2 _ rfl;rw[A26] at t0;rw[A1x] at t1;rw[A25] at t2;obtain⟨k,hk,_,hw⟩:=DataW.trod_int Tryz.underlying3 t0;obtain rfl:u0=.int .i64 k:=by simpa using hk
  obtain⟨e,he,hd,hef⟩:=Wl (u0:=u1) (u1:=u2) t1;obtain⟨ks,hks,bK,hkl⟩:=Ai7 n' u3 y2 t2;exact⟨⟨k,e,ks⟩,rfl,he,hd,hks,(Ab4 _ _ _).2 ⟨wf_i64 hw,hef,hkl,bK⟩⟩
theorem Ako {enc:TypeId × Value->H}:∀(fuel:Nat) (v:Value) (x:DataW H × List MemPlace),DataW.trod enc Tryz.prog W 0 (λ_=>true) true fuel 22 [v]=some x->
  ∃ns:List Stil.Arm,Dj W v ns/\(∀n∈ns,Aef n)/\ns.length<=9223372036854775807:=by
 intro fuel;induction fuel using Nat.strongRecOn with
 | _ fuel ih=>
  intro v x h
  haveI:Inhabited Stil.Arm:=⟨⟨⟨0,⟨0,[]⟩,[]⟩,[],[]⟩⟩
  obtain⟨l,⟨a,cap,hv,hl⟩,hlen⟩:=Yj 6 (λ(z:Stil.Arm) b o=>Pz W b o z/\Aef z) Tryz.underlying22 A36 omz (by
   intro n hn cs y hcs ht
   match cs,hcs with
   | [u0,u1,u2,u3,u4,u5],_=>
    obtain⟨xs,n',hn',_,_,hl,hf⟩:=DataW.trod_struct Tryz.underlying44 ht
    match xs,hl with
    | [y0,y1,y2],_=>
     have t0:DataW.trod enc Tryz.prog W 0 (λ_=>true) true n' 41 (List.take (Tryz.prog.cellsOf 41) (List.drop 0 [u0,u1,u2,u3,u4,u5]))=some y0:=hf 0 _ rfl;have t1:DataW.trod enc Tryz.prog W 0 (λ_=>true) true n' 42 (List.take (Tryz.prog.cellsOf 42) (List.drop 4 [u0,u1,u2,u3,u4,u5]))=some y1:=hf 1 _ rfl;have t2:DataW.trod enc Tryz.prog W 0 (λ_=>true) true n' 22 (List.take (Tryz.prog.cellsOf 22) (List.drop 5 [u0,u1,u2,u3,u4,u5]))=some y2:=hf 2 _ rfl;rw[A3z] at t0;rw[A27] at t1;rw[A3w] at t2;obtain⟨⟨k,e,ks⟩,h0,h1,h2,h3,hnf⟩:=Aly (u0:=u0) (u1:=u1) (u2:=u2) (u3:=u3) t0;obtain⟨es,hes,hef,hel⟩:=Ahd (v:=u4) t1;obtain⟨bs,has,haf,hal⟩:=ih n' omz u5 y2 t2;subst h0 h1;refine⟨⟨⟨k,e,ks⟩,es,bs⟩,λb o hc=>⟨?_,(Ah4 _ _ _).2 ⟨hnf,hel,hef,hal,haf⟩⟩⟩;obtain⟨aa,cO,rfl,hax⟩:=has;rw[Ack]
     exact⟨(Aek _ _ _ _ _ _).2 ⟨hc 0 _ rfl,hc 1 _ rfl,⟨u2,hc 2 _ rfl,h2⟩,u3,hc 3 _ rfl,h3⟩,⟨u4,hc 4 _ rfl,hes⟩,aa,cO,hc 5 _ rfl,hax⟩) h
  refine⟨l,⟨a,cap,hv,λi hi=>?_⟩,λe he=>?_,A4k hlen dcz⟩
  ·obtain⟨b,o,h1,h2,h3,_⟩:=hl i hi
   exact⟨b,o,h1,h2,h3⟩
  ·obtain⟨i,hi,rfl⟩:=List.getElem_of_mem he
   obtain⟨b,o,h1,h2,_,h3⟩:=hl i hi;exact h3
end Go.Proofs.YtbfljjcnbbmoaaaGreatDoor
