import Derived.Test.YtbfljjcnbbmoaaaGreatDoorGU
import Derived.Maps.AppendAt
import Derived.Deep.RegionLaw
import Derived.Test.YtbfljjcnbbmoaaaGreatDoorGC
import Derived.Test.YtbfljjcnbbmoaaaGreatDoorI3
import Derived.Deep.RegionWith
import Derived.Deep.DeepCutAuto
import Derived.Test.YtbfljjcnbbmoaaaGreatDoorM56
import Derived.Test.YtbfljjcnbbmoaaaGreatDoorGL
namespace Go.Proofs.YtbfljjcnbbmoaaaGreatDoor
open Go.RowKit Go.Sort Go.BigFrame
variable {E:Prop}{a:Act}{o:Nat}{ops:Array Oper}{r:Option Nat}{w':World}
theorem Gz {P:Program}{o:Oper}{w:World}{K:Act->World->Prop}{Q:Exit->Act->World->Prop}
  (hg:o.guard=none) (s x:Operand) (t:TypeId) (hop:o.op=.call {callee:=.builtin .append,args:=#[s,x],argTypes:=#[t,t]})
  (base:Nat) (e:TypeId) (i:TypeInfo) (z:Value) (size bytes:Nat) (ht:P.underlying t=some (.slice e)) (hi:P.info? e=some i) (hz:i.zero=some z)
  (hsize:i.size=size) (hby:i.bytes=bytes) (hzs:z.cells.size=size) (hsz:0<size)
  (v:Value) (n:Nat) (xs:List Value) (hs:a.eval s=v) (hown:w.ownsRow base e size v n xs)
  (ad:Addr) (m c:Nat) (news:List Value) (hx:a.eval x=.slice (some ad) m c) (hl:news.length=m*size) (hnews:∀j u,news[j]?=some u->w.cell? (ad.add j)=some u) (h1:∀u∈news,u.oneCell'=true)
  (h63:n+m<=maxLen) (hbytes:(n+m)*bytes<=140737488355328) (hbase:base<=w.heap.size)
  (hK:∀v' w',w'.ownsRow base e size v' (n+m) (xs++news)->w.grownBy w' v.ownBlock->(v'.ownBlock=v.ownBlock\/v'.ownBlock=some w.heap.size)->K (a.put o.dst v') w'):
  if Region.wanted o (yielded ops a.tmps)=true then Oper.wp P o a w K Q else E:=by
 have hw:Region.wanted o (yielded ops a.tmps)=true:=by simp[Region.wanted,hg]
 rw[if_pos hw];obtain⟨v',w',hr,h2,h3,h4,h5⟩:=run_append_own_at (P:=P) w base t o.type e i z size bytes ht hi hz hsize hby hzs hsz v n xs hown ad m c news hl hnews h1 h63 hbytes hbase;unfold Oper.wp execOp;simp only[hop,resolve,invoke,builtin,Sem.run_bind,Sem.run_pure,Result.andThen_ok,List.map_toArray,A4q,List.map_nil,hs,hx,hr];exact hK v' w' h2 h3 h5
theorem Zy {w:World}{b:Nat}{ds:List Stil.Dev}(h:∀i (h:i<ds.length),Ij w b (o+i*3) ds[i]):∀j u,(Cb ds)[j]?=some u->w.cell? ((⟨b,o,none⟩:Addr).add j)=some u:=by
 intro j u hu;have hj:=(List.getElem?_eq_some_iff.1 hu).1;have hlen:(Cb ds).length=ds.length*3:=by
  clear hu hj h;induction ds with
  | nil=>rfl
  | cons d r ih=>have e:Cb (d::r)=.int .i64 d.kind::.int .i64 d.n::.int .i64 d.p::Cb r:=rfl;rw[e];simp[ih];omega
 have hi:j / 3<ds.length:=omz
 obtain⟨a1,a2,a3⟩:=Nj ds (j / 3) hi;obtain⟨c1,c2,c3⟩:=h (j / 3) hi;rw[Addr.add_lit];have hx:j=j / 3*3\/j=j / 3*3+1\/j=j / 3*3+2:=omz
 rcases hx with e | e | e
 ·rw[e] at hu
  rw[hu] at a1;have e2:o+j=o+j / 3*3:=omz
  rw[e2,c1];exact a1.symm
 ·rw[e] at hu
  rw[hu] at a2;have e2:o+j=o+j / 3*3+1:=omz
  rw[e2,c2];exact a2.symm
 ·rw[e] at hu
  rw[hu] at a3;have e2:o+j=o+j / 3*3+2:=omz
  rw[e2,c3];exact a3.symm
theorem Dl {w:World}{b:Nat}(h:w.grownBy w' r)(hb:b<w.heap.size)(hne:r≠some b):w'.cell? ⟨b,o,none⟩=w.cell? ⟨b,o,none⟩:=by
 simp only[World.cell?,h.block b hb (λe=>hne e.symm)]
theorem G7 {w:World}{b:Nat}(h:w.grownBy w' r)(hb:b<w.heap.size)(hne:r≠some b):w'.frozen? ⟨b,o,none⟩=w.frozen? ⟨b,o,none⟩:=by
 simp only[World.frozen?,h.block b hb (λe=>hne e.symm)]
theorem Af {w:World}{base s n:Nat}{e:TypeId}{v:Value}{xs:List Value}(h:w.ownsRow base e s v n xs):∃a cap,v=.slice a n cap:=by
 rcases h.2 with⟨h0,h1⟩ | ⟨g,c,cur,h0,_⟩
 ·exact⟨none,0,by rw[h0,h1]⟩
 ·exact⟨_,_,h0⟩
set_option maxHeartbeats 1000000 in
set_option maxRecDepth 100000 in
theorem Af3 (op:Int)(v:Value)(ds:List Stil.Dev)(w:World)(hat:Bi w v ds)(hl:ds.length<=1048576):
  Calls Tryz.prog 72 #[.agg #[.int .i64 op,v]] w λe w'=>∃u,e=.returned (.agg #[.int .i64 op,u])/\w'.ownsRow w.heap.size 86 3 u ds.length (Cb ds)/\Below w.heap.size w w':=by
 obtain⟨i0,hi,hz0,hz1,hz2⟩:=info_parts Ag2;obtain⟨a,cap,rfl,hc⟩:=hat;by_cases hd:ds.length=0
 ·obtain rfl:ds=[]:=List.length_eq_zero_iff.1 hd
  clear hc;have hown:∀W:World,W.ownsRow w.heap.size 86 3 (.slice none 0 0) 0 []:=λW=>⟨rfl,Or.inl ⟨rfl,rfl⟩⟩
  cases a;all_goals
   go_enter Tryz.func72,Tryz.ntmps72
   go_upto_region 1 with fail
   go_region
   all_goals go_wp2
   all_goals exact bodyPost_ret (v:=.agg #[.int .i64 op, .slice none 0 0]) (by simp[results,Tryz.results72,go_sem]) rfl ⟨_,rfl,hown _,blA⟩
 ·obtain⟨b,o,rfl,hbl,_⟩:=hc 0 omz
  have hc2:∀i (h:i<ds.length),Ij w b (o+i*3) ds[i]:=by
   intro i h;obtain⟨b1,o1,e1,_,h1⟩:=hc i h;simp only[Option.some.injEq,Addr.mk.injEq,and_true] at e1;obtain⟨rfl,rfl⟩:=e1;exact h1
  have wS:Hid (∀W,Below w.heap.size w W->∀j u,(Cb ds)[j]?=some u->W.cell? ((⟨b,o,none⟩:Addr).add j)=some u):=by
   intro W hW;exact Zy (λi h=>(hc2 i h).below hW hbl)
  clear hc hc2;go_enter Tryz.func72,Tryz.ntmps72;obtain⟨W,hW⟩:∃W,W=(w.alloc (.cells #[.int .i64 op, .slice (some ⟨b,o,none⟩) ds.length cap] 49)).alloc (.cells #[.int .i64 0, .slice none 0 0] 49):=⟨_,rfl⟩
  have hsW:W.heap.size=w.heap.size+2:=by rw[hW];simp
  have q0:W.cell? ⟨w.heap.size,0,none⟩=some (.int .i64 op):=by rw[hW];simp[go_sem]
  have q1:W.cell? ⟨w.heap.size,1,none⟩=some (.slice (some ⟨b,o,none⟩) ds.length cap):=by rw[hW];simp[go_sem]
  have q2:W.cell? ⟨w.heap.size+1,0,none⟩=some (.int .i64 0):=by rw[hW];simp[go_sem]
  have q3:W.cell? ⟨w.heap.size+1,1,none⟩=some (.slice none 0 0):=by rw[hW];simp[go_sem]
  have p2:W.frozen? ⟨w.heap.size+1,0,none⟩=false:=by rw[hW];simp[go_sem]
  have p3:W.frozen? ⟨w.heap.size+1,1,none⟩=false:=by rw[hW];simp[go_sem]
  have hbW:Below w.heap.size w W:=by rw[hW];exact Bq (Aa _ _) _
  have pY:=wS W hbW;have jq:=hid pY;have bD:=hid hsW;clear pY;go_upto_region 1 with fail
  rw[<-hW];clear hW hsW wS
  go_region_law (refine Gz rfl _ _ 47 rfl (w.heap.size+2) 86 i0 (.agg #[.int .i64 0, .int .i64 0, .int .i64 0]) 3 24 Tryz.underlying47 hi hz0 hz1 hz2 rfl dcz (.slice none 0 0) 0 [] rfl ⟨rfl,Or.inl ⟨rfl,rfl⟩⟩ _ _ _ (Cb ds) rfl (Vm ds) (by exact jq.out) (Zz ds) (by unfold maxLen;omega) omz (by have:=bD.out;simp only[World.size_drew];omega) ?_;intro v' w6 hown6 aQ lV;obtain⟨a6,c6,hv6⟩:=Af hown6;subst hv6;have hs6:w.heap.size+1<w6.heap.size:=(by have h1:=bD.out;have h2:=aQ.size;simp at h2;omega);have g0:w6.cell? ⟨w.heap.size,0,none⟩=some (.int .i64 op):=(Dl aQ (by have h1:=bD.out;simp;omega) (by simp[Value.ownBlock])).trans (by simpa using q0);have g2:w6.cell? ⟨w.heap.size+1,0,none⟩=some (.int .i64 0):=(Dl aQ (by have h1:=bD.out;simp;omega) (by simp[Value.ownBlock])).trans (by simpa using q2);have g3:w6.cell? ⟨w.heap.size+1,1,none⟩=some (.slice none 0 0):=(Dl aQ (by have h1:=bD.out;simp;omega) (by simp[Value.ownBlock])).trans (by simpa using q3);have y2:w6.frozen? ⟨w.heap.size+1,0,none⟩=false:=(G7 aQ (by have h1:=bD.out;simp;omega) (by simp[Value.ownBlock])).trans (by simpa using p2);have y3:w6.frozen? ⟨w.heap.size+1,1,none⟩=false:=(G7 aQ (by have h1:=bD.out;simp;omega) (by simp[Value.ownBlock])).trans (by simpa using p3))
  all_goals go_wp2
  all_goals
   refine bodyPost_ret (v:=.agg #[.int .i64 op, .slice a6 (0+ds.length) c6]) (by simp[results,Tryz.results72,go_sem,g2,g3]) rfl ⟨_,rfl,?_,?_⟩
   ·have h0:=ownsRow_setCell_below (a:=⟨w.heap.size+1,1,none⟩) (ownsRow_setCell_below (a:=⟨w.heap.size+1,0,none⟩) hown6 (Nat.lt_succ_self _) (.int .i64 op)) (Nat.lt_succ_self _) (.slice a6 (0+ds.length) c6)
    have h1:=Joins.ownsRow_le h0 (show w.heap.size<=w.heap.size+2 by omega);simpa using h1
   ·have hbg:=(Below.refl W.heap.size W).drew.grown aQ (A4d _) (λk hk=>by simp[Value.ownBlock] at hk)
    have hb6:=hbW.trans (hbg.mono (by have:=bD.out;omega));exact(hb6.setCell spz _).setCell spz _
theorem Adw (w:World)(r:Option Nat):w.grownBy w r:=⟨rfl,rfl,rfl,A4d _,λ_ _ _=>rfl⟩
theorem Pi {o:Oper}{w:World}{K:Act->World->Prop}{Q:Exit->Act->World->Prop}
  (hg:o.guard=none) (s x:Operand) (hop:o.op=.call {callee:=.builtin .append,args:=#[s,x],argTypes:=#[47,47]})
  (base:Nat) (N:Nat) (ds:List Stil.Dev) (hs:a.eval s=.slice (some ⟨N,0,none⟩) 0 0) (hown:w.ownsRow base 86 3 (.slice (some ⟨N,0,none⟩) 0 0) 0 [])
  (t0:Option Addr) (u0:Nat) (hx:a.eval x=.slice t0 ds.length u0) (hat:Bi w (.slice t0 ds.length u0) ds) (hl:ds.length<=1048576) (hbase:base<=w.heap.size)
  (hK:∀v' w',w'.ownsRow base 86 3 v' ds.length (Cb ds)->w.grownBy w' (some N)->K (a.put o.dst v') w'):
  if Region.wanted o (yielded ops a.tmps)=true then Oper.wp Tryz.prog o a w K Q else E:=by
 obtain⟨i0,hi,hz0,hz1,hz2⟩:=info_parts Ag2;by_cases hd:ds.length=0
 ·have hn:=List.length_eq_zero_iff.1 hd
  subst hn;have hw:Region.wanted o (yielded ops a.tmps)=true:=by simp[Region.wanted,hg]
  rw[if_pos hw];have hk:=hK _ w hown (Adw _ _);unfold Oper.wp execOp;cases t0
  ·have e:Sem.run Tryz.prog (Builtin.append_ #[47,47] o.type #[.slice (some ⟨N,0,none⟩) 0 0, .slice none 0 u0]) w=.ok (.slice (some ⟨N,0,none⟩) 0 0) w:=by simp[Builtin.append_,go_sem]
   simp only[hop,resolve,invoke,builtin,Sem.run_bind,Sem.run_pure,Result.andThen_ok,List.map_toArray,A4q,List.map_nil,hs,hx,A4a,e];exact hk
  ·rename_i t1
   have e:Sem.run Tryz.prog (Builtin.append_ #[47,47] o.type #[.slice (some ⟨N,0,none⟩) 0 0, .slice (some t1) 0 u0]) w=.ok (.slice (some ⟨N,0,none⟩) 0 0) w:=by simp[Builtin.append_,go_sem]
   simp only[hop,resolve,invoke,builtin,Sem.run_bind,Sem.run_pure,Result.andThen_ok,List.map_toArray,A4q,List.map_nil,hs,hx,A4a,e];exact hk
 ·obtain⟨a1,c1,hv,hc⟩:=hat
  simp only[Value.slice.injEq] at hv;obtain⟨rfl,_,rfl⟩:=hv;obtain⟨b,o1,rfl,hbl,_⟩:=hc 0 omz;have hc2:∀i (h:i<ds.length),Ij w b (o1+i*3) ds[i]:=by
   intro i h;obtain⟨b1,o2,e1,_,h1⟩:=hc i h;simp only[Option.some.injEq,Addr.mk.injEq,and_true] at e1;obtain⟨rfl,rfl⟩:=e1;exact h1
  refine Gz hg s x _ hop base 86 i0 _ 3 24 Tryz.underlying47 hi hz0 hz1 hz2 rfl dcz _ 0 [] hs hown _ _ _ (Cb ds) hx (Vm ds) (Zy hc2) (Zz ds) (by unfold maxLen;omega) omz hbase ?_;intro v' w' h1 h2 _;rw[A4h,A4z] at h1;exact hK v' w' h1 h2
end Go.Proofs.YtbfljjcnbbmoaaaGreatDoor
namespace Go.Proofs.YtbfljjcnbbmoaaaGreatDoor
open Go.RowKit Go.Sort Go.BigFrame
end Go.Proofs.YtbfljjcnbbmoaaaGreatDoor
namespace Go.Proofs.YtbfljjcnbbmoaaaGreatDoor
open Go.RowKit Go.Sort Go.BigFrame
end Go.Proofs.YtbfljjcnbbmoaaaGreatDoor
namespace Go.Proofs.YtbfljjcnbbmoaaaGreatDoor
open Go.RowKit Go.Sort Go.BigFrame
end Go.Proofs.YtbfljjcnbbmoaaaGreatDoor
namespace Go.Proofs.YtbfljjcnbbmoaaaGreatDoor
open Stil
open Go.RowKit Go.Sort Go.BigFrame
variable {o:Nat}{v:Value}{w':World}
def Kw (P:Nat->Prop)(w w':World):Prop:=w.heap.size<=w'.heap.size/\∀b o,P b->b<w.heap.size->w'.cell? ⟨b,o,none⟩=w.cell? ⟨b,o,none⟩
theorem Kw.of_below {P:Nat->Prop}{w:World}(h:Below w.heap.size w w'):Kw P w w':=⟨h.size,λb o _ hb=>h.cell (p:=⟨b,o,none⟩) hb⟩
def Aa6 (a:Option Addr)(n cap:Nat):Prop:=n<=cap/\(a=none->cap=0)
def Vs (P:Nat->Prop)(w:World)(v:Value)(ds:List Stil.Dev):Prop:=∃a cap,v=.slice a ds.length cap/\Aa6 a ds.length cap/\∀i (h:i<ds.length),∃b o,a=some ⟨b,o,none⟩/\P b/\b<w.heap.size/\Ij w b (o+i*3) ds[i]
theorem Ij.keepIn {P:Nat->Prop}{w:World}{b:Nat}{d:Stil.Dev}(h:Ij w b o d)(hk:Kw P w w')(hl:P b)(hb:b<w.heap.size):Ij w' b o d:=by
 obtain⟨h1,h2,h3⟩:=h;exact⟨by rw[hk.2 _ _ hl hb];exact h1,by rw[hk.2 _ _ hl hb];exact h2,by rw[hk.2 _ _ hl hb];exact h3⟩
theorem Vs.keep {P:Nat->Prop}{w:World}{ds:List Stil.Dev}(h:Vs P w v ds)(hk:Kw P w w'):Vs P w' v ds:=by
 obtain⟨a,cap,hv,hq,hc⟩:=h;refine⟨a,cap,hv,hq,λi hi=>?_⟩;obtain⟨b,o,ha,hl,hb,hd⟩:=hc i hi;exact⟨b,o,ha,hl,A37 hb hk.1,hd.keepIn hk hl hb⟩
theorem Vs.at {P:Nat->Prop}{w:World}{ds:List Stil.Dev}(h:Vs P w v ds):Bi w v ds:=by
 obtain⟨a,cap,hv,hq,hc⟩:=h;refine⟨a,cap,hv,λi hi=>?_⟩;obtain⟨b,o,ha,hl',hb,hd⟩:=hc i hi;exact⟨b,o,ha,hb,hd⟩
def Vb (P:Nat->Prop)(w:World):Nat->Nat->Stil.Net->Prop
 | b,o,⟨k,e,kids⟩=>w.cell? ⟨b,o,none⟩=some (.int .i64 k)/\w.cell? ⟨b,o+1,none⟩=some (.int .i64 e.op)/\
   (∃av,w.cell? ⟨b,o+2,none⟩=some av/\Vs P w av e.args)/\
   ∃a cap,w.cell? ⟨b,o+3,none⟩=some (.slice a kids.length cap)/\Aa6 a kids.length cap/\∀i (h:i<kids.length),∃b' o',a=some ⟨b',o',none⟩/\P b'/\b'<w.heap.size/\
    (have:=List.sizeOf_lt_of_mem (A4f h);Vb P w b' (o'+i*4) kids[i])
theorem Ah9 (P:Nat->Prop)(w:World)(b o:Nat)(k:Int)(e:Stil.Elem)(kids:List Stil.Net):Vb P w b o ⟨k,e,kids⟩=(w.cell? ⟨b,o,none⟩=some (.int .i64 k)/\w.cell? ⟨b,o+1,none⟩=some (.int .i64 e.op)/\
   (∃av,w.cell? ⟨b,o+2,none⟩=some av/\Vs P w av e.args)/\
   ∃a cap,w.cell? ⟨b,o+3,none⟩=some (.slice a kids.length cap)/\Aa6 a kids.length cap/\∀i (h:i<kids.length),∃b' o',a=some ⟨b',o',none⟩/\P b'/\b'<w.heap.size/\Vb P w b' (o'+i*4) kids[i]):=by rw[Vb]
def Aae (P:Nat->Prop)(w:World)(v:Value)(ns:List Stil.Net):Prop:=∃a cap,v=.slice a ns.length cap/\Aa6 a ns.length cap/\∀i (h:i<ns.length),∃b o,a=some ⟨b,o,none⟩/\P b/\b<w.heap.size/\Vb P w b (o+i*4) ns[i]
theorem Aaf (P:Nat->Prop)(w:World)(b o:Nat)(n:Stil.Net):Vb P w b o n↔(w.cell? ⟨b,o,none⟩=some (.int .i64 n.kind)/\w.cell? ⟨b,o+1,none⟩=some (.int .i64 n.one.op)/\
   (∃av,w.cell? ⟨b,o+2,none⟩=some av/\Vs P w av n.one.args)/\∃kv,w.cell? ⟨b,o+3,none⟩=some kv/\Aae P w kv n.kids):=by
 obtain⟨k,e,kids⟩:=n;rw[Ah9];constructor
 ·rintro⟨h1,h2,h3,a,cap,h4,hq,h5⟩;exact⟨h1,h2,h3,_,h4,a,cap,rfl,hq,h5⟩
 ·rintro⟨h1,h2,h3,_,h4,a,cap,rfl,hq,h5⟩;exact⟨h1,h2,h3,a,cap,h4,hq,h5⟩
theorem Vb.keep {P:Nat->Prop}{w:World}(hk:Kw P w w'):∀(n:Stil.Net) (b o:Nat),Vb P w b o n->P b->b<w.heap.size->Vb P w' b o n:=by
 intro n;induction n using Fh with
 | h k e kids ih=>
  intro b o h hl hlt;rw[Ah9] at h ⊢;obtain⟨h1,h2,⟨av,h3,h4⟩,a,cap,h5,hq,h6⟩:=h;refine⟨?_,?_,⟨av,?_,h4.keep hk⟩,a,cap,?_,hq,λi hi=>?_⟩
  ·rw[hk.2 _ _ hl hlt];exact h1
  ·rw[hk.2 _ _ hl hlt];exact h2
  ·rw[hk.2 _ _ hl hlt];exact h3
  ·rw[hk.2 _ _ hl hlt];exact h5
  ·exact zh0
theorem Aae.keep {P:Nat->Prop}{w:World}{ns:List Stil.Net}(h:Aae P w v ns)(hk:Kw P w w'):Aae P w' v ns:=by
 obtain⟨a,cap,hv,hq,hc⟩:=h;refine⟨a,cap,hv,hq,λi hi=>?_⟩;obtain⟨b,o,ha,hl,hb,hd⟩:=hc i hi;exact⟨b,o,ha,hl,A37 hb hk.1,Vb.keep hk _ _ _ hd hl hb⟩
theorem Vb.at {P:Nat->Prop}{w:World}:∀(n:Stil.Net) (b o:Nat),Vb P w b o n->Nw w b o n:=by
 intro n;induction n using Fh with
 | h k e kids ih=>
  intro b o h;rw[Ah9] at h;rw[Ach];obtain⟨h1,h2,⟨av,h3,h4⟩,a,cap,h5,hq,h6⟩:=h;refine⟨h1,h2,⟨av,h3,h4.at⟩,a,cap,h5,λi hi=>?_⟩;obtain⟨b',o',ha,hlo,hl',hn⟩:=h6 i hi;exact⟨b',o',ha,hl',ih _ (A4f hi) b' _ hn⟩
theorem Aae.at {P:Nat->Prop}{w:World}{ns:List Stil.Net}(h:Aae P w v ns):Dx w v ns:=by
 obtain⟨a,cap,hv,hq,hc⟩:=h;refine⟨a,cap,hv,λi hi=>?_⟩;obtain⟨b,o,ha,hl',hb,hd⟩:=hc i hi;exact⟨b,o,ha,hb,Vb.at _ _ _ hd⟩
def Aoy (P:Nat->Prop)(w:World)(b o:Nat)(e:Stil.Elem):Prop:=w.cell? ⟨b,o,none⟩=some (.int .i64 e.op)/\∃av,w.cell? ⟨b,o+1,none⟩=some av/\Vs P w av e.args
def Rf (P:Nat->Prop)(w:World)(v:Value)(es:List Stil.Elem):Prop:=∃a cap,v=.slice a es.length cap/\Aa6 a es.length cap/\∀i (h:i<es.length),∃b o,a=some ⟨b,o,none⟩/\P b/\b<w.heap.size/\Aoy P w b (o+i*2) es[i]
theorem Aoy.keep {P:Nat->Prop}{w:World}{b:Nat}{e:Stil.Elem}(h:Aoy P w b o e)(hk:Kw P w w')(hl:P b)(hb:b<w.heap.size):Aoy P w' b o e:=by
 obtain⟨h1,av,h2,h3⟩:=h;exact⟨by rw[hk.2 _ _ hl hb];exact h1,av,by rw[hk.2 _ _ hl hb];exact h2,h3.keep hk⟩
theorem Rf.keep {P:Nat->Prop}{w:World}{es:List Stil.Elem}(h:Rf P w v es)(hk:Kw P w w'):Rf P w' v es:=by
 obtain⟨a,cap,hv,hq,hc⟩:=h;refine⟨a,cap,hv,hq,λi hi=>?_⟩;obtain⟨b,o,ha,hl,hb,hd⟩:=hc i hi;exact⟨b,o,ha,hl,A37 hb hk.1,hd.keep hk hl hb⟩
theorem Rf.at {P:Nat->Prop}{w:World}{es:List Stil.Elem}(h:Rf P w v es):En w v es:=by
 obtain⟨a,cap,hv,hq,hc⟩:=h;refine⟨a,cap,hv,λi hi=>?_⟩;obtain⟨b,o,ha,hl',hb,h1,av,h2,h3⟩:=hc i hi;exact⟨b,o,ha,hb,h1,av,h2,h3.at⟩
def Ab2 (P:Nat->Prop)(w:World):Nat->Nat->Stil.Arm->Prop
 | b,o,⟨n,coils,kids⟩=>Vb P w b o n/\(∃cv,w.cell? ⟨b,o+4,none⟩=some cv/\Rf P w cv coils)/\
   ∃a cap,w.cell? ⟨b,o+5,none⟩=some (.slice a kids.length cap)/\Aa6 a kids.length cap/\∀i (h:i<kids.length),∃b' o',a=some ⟨b',o',none⟩/\P b'/\b'<w.heap.size/\
    (have:=List.sizeOf_lt_of_mem (A4f h);Ab2 P w b' (o'+i*6) kids[i])
theorem Aoz (P:Nat->Prop)(w:World)(b o:Nat)(n:Stil.Net)(coils:List Stil.Elem)(kids:List Stil.Arm):Ab2 P w b o ⟨n,coils,kids⟩=(Vb P w b o n/\(∃cv,w.cell? ⟨b,o+4,none⟩=some cv/\Rf P w cv coils)/\
   ∃a cap,w.cell? ⟨b,o+5,none⟩=some (.slice a kids.length cap)/\Aa6 a kids.length cap/\∀i (h:i<kids.length),∃b' o',a=some ⟨b',o',none⟩/\P b'/\b'<w.heap.size/\Ab2 P w b' (o'+i*6) kids[i]):=by rw[Ab2]
def Agm (P:Nat->Prop)(w:World)(v:Value)(l:List Stil.Arm):Prop:=∃a cap,v=.slice a l.length cap/\Aa6 a l.length cap/\∀i (h:i<l.length),∃b o,a=some ⟨b,o,none⟩/\P b/\b<w.heap.size/\Ab2 P w b (o+i*6) l[i]
theorem Aks (P:Nat->Prop)(w:World)(b o:Nat)(n:Stil.Arm):Ab2 P w b o n↔(Vb P w b o n.net/\(∃cv,w.cell? ⟨b,o+4,none⟩=some cv/\Rf P w cv n.coils)/\∃kv,w.cell? ⟨b,o+5,none⟩=some kv/\Agm P w kv n.kids):=by
 obtain⟨k,e,kids⟩:=n;rw[Aoz];constructor
 ·rintro⟨h1,h3,a,cap,h4,hq,h5⟩;exact⟨h1,h3,_,h4,a,cap,rfl,hq,h5⟩
 ·rintro⟨h1,h3,_,h4,a,cap,rfl,hq,h5⟩;exact⟨h1,h3,a,cap,h4,hq,h5⟩
theorem Ab2.keep {P:Nat->Prop}{w:World}(hk:Kw P w w'):∀(n:Stil.Arm) (b o:Nat),Ab2 P w b o n->P b->b<w.heap.size->Ab2 P w' b o n:=by
 intro n;induction n using Fg with
 | h n coils kids ih=>
  intro b o h hl hlt;rw[Aoz] at h ⊢;obtain⟨h1,⟨cv,h3,h4⟩,a,cap,h5,hq,h6⟩:=h;refine⟨Vb.keep hk _ _ _ h1 hl hlt,⟨cv,?_,h4.keep hk⟩,a,cap,?_,hq,λi hi=>?_⟩
  ·rw[hk.2 _ _ hl hlt];exact h3
  ·rw[hk.2 _ _ hl hlt];exact h5
  ·exact zh0
theorem Agm.keep {P:Nat->Prop}{w:World}{ns:List Stil.Arm}(h:Agm P w v ns)(hk:Kw P w w'):Agm P w' v ns:=by
 obtain⟨a,cap,hv,hq,hc⟩:=h;refine⟨a,cap,hv,hq,λi hi=>?_⟩;obtain⟨b,o,ha,hl,hb,hd⟩:=hc i hi;exact⟨b,o,ha,hl,A37 hb hk.1,Ab2.keep hk _ _ _ hd hl hb⟩
end Go.Proofs.YtbfljjcnbbmoaaaGreatDoor
namespace Go.Proofs.YtbfljjcnbbmoaaaGreatDoor
open Go.RowKit Go.Sort Go.BigFrame
variable {lo o:Nat}{v:Value}{w':World}
def Aox (w:World)(b o:Nat)(i:Stil.Rl):Prop:=w.cell? ⟨b,o,none⟩=some (.int .i64 i.code)/\w.cell? ⟨b,o+1,none⟩=some (.int .i64 i.one.op)/\∃av,w.cell? ⟨b,o+2,none⟩=some av/\Bi w av i.one.args
def Jn (w:World)(v:Value)(l:List Stil.Rl):Prop:=∃a cap,v=.slice a l.length cap/\∀i (h:i<l.length),∃b o,a=some ⟨b,o,none⟩/\b<w.heap.size/\Aox w b (o+i*3) l[i]
theorem Aox.below {w:World}{b:Nat}{i:Stil.Rl}(h:Aox w b o i)(hb:Below w.heap.size w w')(hlt:b<w.heap.size):Aox w' b o i:=by
 obtain⟨h1,h2,av,h3,h4⟩:=h;exact⟨by rw[hb.cell (p:=⟨b,o,none⟩) hlt];exact h1,by rw[hb.cell (p:=⟨b,o+1,none⟩) hlt];exact h2,av,by rw[hb.cell (p:=⟨b,o+2,none⟩) hlt];exact h3,h4.below hb⟩
theorem Jn.below {w:World}{l:List Stil.Rl}(h:Jn w v l)(hb:Below w.heap.size w w'):Jn w' v l:=by
 obtain⟨a,cap,hv,hc⟩:=h;refine⟨a,cap,hv,λi hi=>?_⟩;obtain⟨b,o,ha,hlt,hn⟩:=hc i hi;exact⟨b,o,ha,A37 hlt hb.size,hn.below hb hlt⟩
def Aci (lo:Nat)(w:World)(b o:Nat)(i:Stil.Rl):Prop:=w.cell? ⟨b,o,none⟩=some (.int .i64 i.code)/\w.cell? ⟨b,o+1,none⟩=some (.int .i64 i.one.op)/\∃av,w.cell? ⟨b,o+2,none⟩=some av/\Hl lo w av i.one.args
def Uj (lo:Nat)(w:World)(v:Value)(l:List Stil.Rl):Prop:=∃a cap,v=.slice a l.length cap/\∀i (h:i<l.length),∃b o,a=some ⟨b,o,none⟩/\lo<=b/\b<w.heap.size/\Aci lo w b (o+i*3) l[i]
theorem Aci.keep {w:World}{b:Nat}{i:Stil.Rl}(h:Aci lo w b o i)(hk:Ns lo w w')(hl:lo<=b)(hb:b<w.heap.size):Aci lo w' b o i:=by
 obtain⟨h1,h2,av,h3,h4⟩:=h;exact⟨by rw[hk.2 _ _ hl hb];exact h1,by rw[hk.2 _ _ hl hb];exact h2,av,by rw[hk.2 _ _ hl hb];exact h3,h4.keep hk⟩
theorem Uj.keep {w:World}{l:List Stil.Rl}(h:Uj lo w v l)(hk:Ns lo w w'):Uj lo w' v l:=by
 obtain⟨a,cap,hv,hc⟩:=h;refine⟨a,cap,hv,λi hi=>?_⟩;obtain⟨b,o,ha,hl,hb,hd⟩:=hc i hi;exact⟨b,o,ha,hl,A37 hb hk.1,hd.keep hk hl hb⟩
theorem Uj.at {w:World}{l:List Stil.Rl}(h:Uj lo w v l):Jn w v l:=by
 obtain⟨a,cap,hv,hc⟩:=h;refine⟨a,cap,hv,λi hi=>?_⟩;obtain⟨b,o,ha,hl',hb,h1,h2,av,h3,h4⟩:=hc i hi;exact⟨b,o,ha,hb,h1,h2,av,h3,h4.at⟩
end Go.Proofs.YtbfljjcnbbmoaaaGreatDoor
namespace Go.Proofs.YtbfljjcnbbmoaaaGreatDoor
open Go.RowKit Go.Sort Go.BigFrame
theorem Zq:(Tryz.prog.info? 58).map (λi=>(i.zero,i.size,i.bytes))=some (some (.agg #[.int .i64 0, .int .i64 0, .slice none 0 0]),3,40):=krz
end Go.Proofs.YtbfljjcnbbmoaaaGreatDoor
set_option maxHeartbeats 4000000
set_option maxRecDepth 100000
namespace Go.Proofs.YtbfljjcnbbmoaaaGreatDoor
open Go.RowKit Go.Sort Go.BigFrame
theorem Au9 (x:Stil.Elem)(hx:x.fits):∀(av bM:Value) (w:World),Bi w av x.args->Bi w bM x.args->Calls Tryz.prog 46 #[.agg #[.int .i64 x.op,av], .agg #[.int .i64 x.op,bM]] w λe w'=>e=.returned (.bool true)/\Below w.heap.size w w':=by
 intro av bM w hav bC;refine(An1 x.op x.op av bM x.args x.args w hav bC hx.2.1 hx.2.1).mono ?_;rintro e w1 ⟨rfl,hb⟩;exact⟨Ar spz,hb⟩
theorem Ayh (x:Stil.Rl)(hx:x.fits):∀(av bM:Value) (w:World),Bi w av x.one.args->Bi w bM x.one.args->Calls Tryz.prog 23 #[.agg #[.int .i64 x.code, .int .i64 x.one.op,av], .agg #[.int .i64 x.code, .int .i64 x.one.op,bM]] w λe w'=>e=.returned (.bool true)/\Below w.heap.size w w':=by
 intro av bM w hav bC;have H1:=hid (λW hW=>Au9 x.one hx.2 av bM W (hav.below hW) (bC.below hW));obtain⟨p0,r0,rfl,_⟩:=hav;obtain⟨p2,r2,rfl,_⟩:=bC;clear hx;go_enter Tryz.func23,Tryz.ntmps23
 go_wp2_with (go_at_call 46;refine(H1 _ blA).mono ?_;rintro e w1 ⟨rfl,hb⟩)
 go_ret;exact⟨rfl,blA⟩
theorem Au7 (es:List Stil.Rl)(ih:∀x∈es,∀(av bM:Value) (w:World),Bi w av x.one.args->Bi w bM x.one.args->Calls Tryz.prog 23 #[.agg #[.int .i64 x.code, .int .i64 x.one.op,av], .agg #[.int .i64 x.code, .int .i64 x.one.op,bM]] w λe w'=>e=.returned (.bool true)/\Below w.heap.size w w')(v u:Value)(w:World)(hat:Jn w v es)(jS:Jn w u es)(hl:es.length<=1048576):
  Calls Tryz.prog 9 #[v,u] w λe w'=>e=.returned (.bool true)/\Below w.heap.size w w':=by
 obtain⟨a,cap,rfl,hc⟩:=hat;obtain⟨a2,cap2,rfl,hc2⟩:=jS;have HA:=hid hc;have HB:=hid hc2;have IH:=hid ih;clear hc hc2 ih;go_enter Tryz.func9,Tryz.ntmps9
 go_wp2
 go_loopw [5] (λi wr=>∃k:Nat,k<=es.length/\i=.int .i64 k/\Below w.heap.size w wr) (λi _=>es.length - (intOf i).toNat)
 case atStart=>exact⟨0,omz,rfl,Below.refl _ _⟩
 case round=>
  obtain⟨k,hk,rfl,hb⟩:=hrel;by_cases hlt:k<es.length
  ·obtain⟨b,o,rfl,hbl,hn⟩:=HA k hlt
   have hn2:=(hn.below hb hbl)
   obtain⟨b2,o2,rfl,iH,hm⟩:=HB k hlt;have hm2:=(hm.below hb iH)
   obtain⟨x0,x1,av,x2,hav⟩:=id hn2;obtain⟨y0,y1,bM,y2,bC⟩:=id hm2;have HI:=hid (λW hW=>IH es[k] (A4f hlt) _ _ W (hav.below hW) (bC.below hW));obtain⟨x,hx⟩:∃x,x=es[k]:=⟨_,rfl⟩
   rw[<-hx] at HI x0 x1 y0 y1;obtain⟨p0,r0,rfl,_⟩:=hav;obtain⟨uj,uh,rfl,_⟩:=bC;clear hx hn hn2 hm hm2;have ug:=cell_regrown x0;have tu:=cell_regrown y0;have uf:=cell_regrown x1;have tq:=cell_regrown y1;have rx2:=cell_regrown x2;have ry2:=cell_regrown y2
   go_wp2
   refine wp_region_quiet_below krz krz ?_;repeat (go_big_quiet_step ((exact Calls.regrown_of (HI _ blB))))
   refine wpQuiet_nil ?_;intro _ hw';obtain⟨⟨dq,osq⟩,hw''⟩:=hw';subst hw''
   go_wp2
   exact⟨⟨k+1,omz,by go_num,Ep hb _ _⟩,by simp[intOf];omega⟩
  ·go_wp2
   go_ret;exact⟨rfl,hb⟩
end Go.Proofs.YtbfljjcnbbmoaaaGreatDoor
