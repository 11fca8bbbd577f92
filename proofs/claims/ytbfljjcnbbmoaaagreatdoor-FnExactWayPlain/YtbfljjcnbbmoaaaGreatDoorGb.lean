import Derived.Test.YtbfljjcnbbmoaaaGreatDoorGC
import Derived.Test.YtbfljjcnbbmoaaaGreatDoorI3
import Derived.Deep.RegionWith
import Derived.Deep.DeepCutAuto
import Derived.Test.YtbfljjcnbbmoaaaGreatDoorGT
import Derived.Maps.AppendAt
import Derived.Deep.RegionLaw
import Derived.Test.YtbfljjcnbbmoaaaGreatDoorGp
import Derived.Test.YtbfljjcnbbmoaaaGreatDoorGL
namespace Go.Proofs.YtbfljjcnbbmoaaaGreatDoor
open Go.RowKit Go.Sort Go.BigFrame
def Small (d:Stil.Dev):Prop:=(-10000000000<=d.kind/\d.kind<=10000000000)/\(-10000000000<=d.n/\d.n<=10000000000)/\(-10000000000<=d.p/\d.p<=10000000000)
theorem Small.fits {d:Stil.Dev} (h:Small d):d.fits:=by
 obtain⟨⟨a,b⟩,⟨c,d⟩,⟨e,f⟩⟩:=h;exact⟨⟨by omega,by omega⟩,⟨by omega,by omega⟩,⟨by omega,by omega⟩⟩
end Go.Proofs.YtbfljjcnbbmoaaaGreatDoor
namespace Go.Proofs.YtbfljjcnbbmoaaaGreatDoor
open Go.RowKit Go.Sort Go.BigFrame
end Go.Proofs.YtbfljjcnbbmoaaaGreatDoor
namespace Go.Proofs.YtbfljjcnbbmoaaaGreatDoor
open Go.RowKit Go.Sort Go.BigFrame
end Go.Proofs.YtbfljjcnbbmoaaaGreatDoor
namespace Go.Proofs.YtbfljjcnbbmoaaaGreatDoor
open Stil
open Go.RowKit Go.Sort Go.BigFrame
def Je (P:Nat->Prop) (w w':World):Prop:=w.heap.size<=w'.heap.size/\∀b o,P b->b<w.heap.size->w'.cell? ⟨b,o,none⟩=w.cell? ⟨b,o,none⟩
theorem Je.trans {P:Nat->Prop} {a b c:World} (h1:Je P a b) (h2:Je P b c):Je P a c:=
 ⟨A4p h1.1 h2.1,λx o hl hx=>(h2.2 x o hl (A4c hx h1.1)).trans (h1.2 x o hl hx)⟩
theorem Je.of_below {P:Nat->Prop} {w w':World} (h:Below w.heap.size w w'):Je P w w':=⟨h.size,λb o _ hb=>h.cell (p:=⟨b,o,none⟩) hb⟩
def Aai (a:Option Addr) (n cap:Nat):Prop:=n<=cap/\(a=none->cap=0)
def U6 (P:Nat->Prop) (w:World) (v:Value) (ds:List Stil.Dev):Prop:=∃a cap,v=.slice a ds.length cap/\Aai a ds.length cap/\∀i (h:i<ds.length),∃b o,a=some ⟨b,o,none⟩/\P b/\b<w.heap.size/\Ia w b (o+i*3) ds[i]
theorem Ia.keepIn {P:Nat->Prop} {w w':World} {b o:Nat} {d:Stil.Dev} (h:Ia w b o d) (hk:Je P w w') (hl:P b) (hb:b<w.heap.size):Ia w' b o d:=by
 obtain⟨h1,h2,h3⟩:=h;exact⟨by rw[hk.2 _ _ hl hb];exact h1,by rw[hk.2 _ _ hl hb];exact h2,by rw[hk.2 _ _ hl hb];exact h3⟩
theorem U6.keep {P:Nat->Prop} {w w':World} {v:Value} {ds:List Stil.Dev} (h:U6 P w v ds) (hk:Je P w w'):U6 P w' v ds:=by
 obtain⟨a,cap,hv,hq,hc⟩:=h;refine⟨a,cap,hv,hq,λi hi=>?_⟩;obtain⟨b,o,ha,hl,hb,hd⟩:=hc i hi;exact⟨b,o,ha,hl,A4c hb hk.1,hd.keepIn hk hl hb⟩
theorem U6.at {P:Nat->Prop} {w:World} {v:Value} {ds:List Stil.Dev} (h:U6 P w v ds):Bg w v ds:=by
 obtain⟨a,cap,hv,hq,hc⟩:=h;refine⟨a,cap,hv,λi hi=>?_⟩;obtain⟨b,o,ha,hl',hb,hd⟩:=hc i hi;exact⟨b,o,ha,hb,hd⟩
def U8 (P:Nat->Prop) (w:World):Nat->Nat->Stil.Net->Prop
 | b,o,⟨k,e,kids⟩=>w.cell? ⟨b,o,none⟩=some (.int .i64 k)/\w.cell? ⟨b,o+1,none⟩=some (.int .i64 e.op)/\
   (∃av,w.cell? ⟨b,o+2,none⟩=some av/\U6 P w av e.args)/\
   ∃a cap,w.cell? ⟨b,o+3,none⟩=some (.slice a kids.length cap)/\Aai a kids.length cap/\∀i (h:i<kids.length),∃b' o',a=some ⟨b',o',none⟩/\P b'/\b'<w.heap.size/\
    (have:=List.sizeOf_lt_of_mem (A4k h);U8 P w b' (o'+i*4) kids[i])
theorem Ahf (P:Nat->Prop) (w:World) (b o:Nat) (k:Int) (e:Stil.Elem) (kids:List Stil.Net):U8 P w b o ⟨k,e,kids⟩=(w.cell? ⟨b,o,none⟩=some (.int .i64 k)/\w.cell? ⟨b,o+1,none⟩=some (.int .i64 e.op)/\
   (∃av,w.cell? ⟨b,o+2,none⟩=some av/\U6 P w av e.args)/\
   ∃a cap,w.cell? ⟨b,o+3,none⟩=some (.slice a kids.length cap)/\Aai a kids.length cap/\∀i (h:i<kids.length),∃b' o',a=some ⟨b',o',none⟩/\P b'/\b'<w.heap.size/\U8 P w b' (o'+i*4) kids[i]):=by rw[U8]
def Zo (P:Nat->Prop) (w:World) (v:Value) (ns:List Stil.Net):Prop:=∃a cap,v=.slice a ns.length cap/\Aai a ns.length cap/\∀i (h:i<ns.length),∃b o,a=some ⟨b,o,none⟩/\P b/\b<w.heap.size/\U8 P w b (o+i*4) ns[i]
theorem Adp (P:Nat->Prop) (w:World) (b o:Nat) (n:Stil.Net):U8 P w b o n↔(w.cell? ⟨b,o,none⟩=some (.int .i64 n.kind)/\w.cell? ⟨b,o+1,none⟩=some (.int .i64 n.one.op)/\
   (∃av,w.cell? ⟨b,o+2,none⟩=some av/\U6 P w av n.one.args)/\∃kv,w.cell? ⟨b,o+3,none⟩=some kv/\Zo P w kv n.kids):=by
 obtain⟨k,e,kids⟩:=n;rw[Ahf];constructor
 ·rintro⟨h1,h2,h3,a,cap,h4,hq,h5⟩;exact⟨h1,h2,h3,_,h4,a,cap,rfl,hq,h5⟩
 ·rintro⟨h1,h2,h3,_,h4,a,cap,rfl,hq,h5⟩;exact⟨h1,h2,h3,a,cap,h4,hq,h5⟩
theorem U8.keep {P:Nat->Prop} {w w':World} (hk:Je P w w'):∀(n:Stil.Net) (b o:Nat),U8 P w b o n->P b->b<w.heap.size->U8 P w' b o n:=by
 intro n;induction n using Fg with
 | h k e kids ih=>
  intro b o h hl hlt;rw[Ahf] at h ⊢;obtain⟨h1,h2,⟨av,h3,h4⟩,a,cap,h5,hq,h6⟩:=h;refine⟨?_,?_,⟨av,?_,h4.keep hk⟩,a,cap,?_,hq,λi hi=>?_⟩
  ·rw[hk.2 _ _ hl hlt];exact h1
  ·rw[hk.2 _ _ hl hlt];exact h2
  ·rw[hk.2 _ _ hl hlt];exact h3
  ·rw[hk.2 _ _ hl hlt];exact h5
  ·obtain⟨b',o',ha,hlo,hl',hn⟩:=h6 i hi
   exact⟨b',o',ha,hlo,A4c hl' hk.1,ih _ (A4k hi) b' _ hn hlo hl'⟩
theorem Zo.keep {P:Nat->Prop} {w w':World} {v:Value} {ns:List Stil.Net} (h:Zo P w v ns) (hk:Je P w w'):Zo P w' v ns:=by
 obtain⟨a,cap,hv,hq,hc⟩:=h;refine⟨a,cap,hv,hq,λi hi=>?_⟩;obtain⟨b,o,ha,hl,hb,hd⟩:=hc i hi;exact⟨b,o,ha,hl,A4c hb hk.1,U8.keep hk _ _ _ hd hl hb⟩
theorem U8.at {P:Nat->Prop} {w:World}:∀(n:Stil.Net) (b o:Nat),U8 P w b o n->Me w b o n:=by
 intro n;induction n using Fg with
 | h k e kids ih=>
  intro b o h;rw[Ahf] at h;rw[Abp];obtain⟨h1,h2,⟨av,h3,h4⟩,a,cap,h5,hq,h6⟩:=h;refine⟨h1,h2,⟨av,h3,h4.at⟩,a,cap,h5,λi hi=>?_⟩;obtain⟨b',o',ha,hlo,hl',hn⟩:=h6 i hi;exact⟨b',o',ha,hl',ih _ (A4k hi) b' _ hn⟩
theorem Zo.at {P:Nat->Prop} {w:World} {v:Value} {ns:List Stil.Net} (h:Zo P w v ns):Dq w v ns:=by
 obtain⟨a,cap,hv,hq,hc⟩:=h;refine⟨a,cap,hv,λi hi=>?_⟩;obtain⟨b,o,ha,hl',hb,hd⟩:=hc i hi;exact⟨b,o,ha,hb,U8.at _ _ _ hd⟩
def Aof (P:Nat->Prop) (w:World) (b o:Nat) (e:Stil.Elem):Prop:=w.cell? ⟨b,o,none⟩=some (.int .i64 e.op)/\∃av,w.cell? ⟨b,o+1,none⟩=some av/\U6 P w av e.args
def Qo (P:Nat->Prop) (w:World) (v:Value) (es:List Stil.Elem):Prop:=∃a cap,v=.slice a es.length cap/\Aai a es.length cap/\∀i (h:i<es.length),∃b o,a=some ⟨b,o,none⟩/\P b/\b<w.heap.size/\Aof P w b (o+i*2) es[i]
theorem Aof.keep {P:Nat->Prop} {w w':World} {b o:Nat} {e:Stil.Elem} (h:Aof P w b o e) (hk:Je P w w') (hl:P b) (hb:b<w.heap.size):Aof P w' b o e:=by
 obtain⟨h1,av,h2,h3⟩:=h;exact⟨by rw[hk.2 _ _ hl hb];exact h1,av,by rw[hk.2 _ _ hl hb];exact h2,h3.keep hk⟩
theorem Qo.keep {P:Nat->Prop} {w w':World} {v:Value} {es:List Stil.Elem} (h:Qo P w v es) (hk:Je P w w'):Qo P w' v es:=by
 obtain⟨a,cap,hv,hq,hc⟩:=h;refine⟨a,cap,hv,hq,λi hi=>?_⟩;obtain⟨b,o,ha,hl,hb,hd⟩:=hc i hi;exact⟨b,o,ha,hl,A4c hb hk.1,hd.keep hk hl hb⟩
theorem Qo.at {P:Nat->Prop} {w:World} {v:Value} {es:List Stil.Elem} (h:Qo P w v es):Ef w v es:=by
 obtain⟨a,cap,hv,hq,hc⟩:=h;refine⟨a,cap,hv,λi hi=>?_⟩;obtain⟨b,o,ha,hl',hb,h1,av,h2,h3⟩:=hc i hi;exact⟨b,o,ha,hb,h1,av,h2,h3.at⟩
def Adu (P:Nat->Prop) (w:World):Nat->Nat->Stil.Arm->Prop
 | b,o,⟨n,coils,kids⟩=>U8 P w b o n/\(∃cv,w.cell? ⟨b,o+4,none⟩=some cv/\Qo P w cv coils)/\
   ∃a cap,w.cell? ⟨b,o+5,none⟩=some (.slice a kids.length cap)/\Aai a kids.length cap/\∀i (h:i<kids.length),∃b' o',a=some ⟨b',o',none⟩/\P b'/\b'<w.heap.size/\
    (have:=List.sizeOf_lt_of_mem (A4k h);Adu P w b' (o'+i*6) kids[i])
theorem Aoh (P:Nat->Prop) (w:World) (b o:Nat) (n:Stil.Net) (coils:List Stil.Elem) (kids:List Stil.Arm):Adu P w b o ⟨n,coils,kids⟩=(U8 P w b o n/\(∃cv,w.cell? ⟨b,o+4,none⟩=some cv/\Qo P w cv coils)/\
   ∃a cap,w.cell? ⟨b,o+5,none⟩=some (.slice a kids.length cap)/\Aai a kids.length cap/\∀i (h:i<kids.length),∃b' o',a=some ⟨b',o',none⟩/\P b'/\b'<w.heap.size/\Adu P w b' (o'+i*6) kids[i]):=by rw[Adu]
def Afu (P:Nat->Prop) (w:World) (v:Value) (l:List Stil.Arm):Prop:=∃a cap,v=.slice a l.length cap/\Aai a l.length cap/\∀i (h:i<l.length),∃b o,a=some ⟨b,o,none⟩/\P b/\b<w.heap.size/\Adu P w b (o+i*6) l[i]
theorem Aj5 (P:Nat->Prop) (w:World) (b o:Nat) (n:Stil.Arm):Adu P w b o n↔(U8 P w b o n.net/\(∃cv,w.cell? ⟨b,o+4,none⟩=some cv/\Qo P w cv n.coils)/\∃kv,w.cell? ⟨b,o+5,none⟩=some kv/\Afu P w kv n.kids):=by
 obtain⟨k,e,kids⟩:=n;rw[Aoh];constructor
 ·rintro⟨h1,h3,a,cap,h4,hq,h5⟩;exact⟨h1,h3,_,h4,a,cap,rfl,hq,h5⟩
 ·rintro⟨h1,h3,_,h4,a,cap,rfl,hq,h5⟩;exact⟨h1,h3,a,cap,h4,hq,h5⟩
theorem Adu.keep {P:Nat->Prop} {w w':World} (hk:Je P w w'):∀(n:Stil.Arm) (b o:Nat),Adu P w b o n->P b->b<w.heap.size->Adu P w' b o n:=by
 intro n;induction n using Fz with
 | h n coils kids ih=>
  intro b o h hl hlt;rw[Aoh] at h ⊢;obtain⟨h1,⟨cv,h3,h4⟩,a,cap,h5,hq,h6⟩:=h;refine⟨U8.keep hk _ _ _ h1 hl hlt,⟨cv,?_,h4.keep hk⟩,a,cap,?_,hq,λi hi=>?_⟩
  ·rw[hk.2 _ _ hl hlt];exact h3
  ·rw[hk.2 _ _ hl hlt];exact h5
  ·obtain⟨b',o',ha,hlo,hl',hn⟩:=h6 i hi
   exact⟨b',o',ha,hlo,A4c hl' hk.1,ih _ (A4k hi) b' _ hn hlo hl'⟩
theorem Afu.keep {P:Nat->Prop} {w w':World} {v:Value} {ns:List Stil.Arm} (h:Afu P w v ns) (hk:Je P w w'):Afu P w' v ns:=by
 obtain⟨a,cap,hv,hq,hc⟩:=h;refine⟨a,cap,hv,hq,λi hi=>?_⟩;obtain⟨b,o,ha,hl,hb,hd⟩:=hc i hi;exact⟨b,o,ha,hl,A4c hb hk.1,Adu.keep hk _ _ _ hd hl hb⟩
def RowOf {α:Type} (s:Nat) (R:List Value->α->Prop) (xs:List Value) (us:List α):Prop:=xs.length=us.length*s/\∀i (h:i<us.length),R ((xs.drop (i*s)).take s) us[i]
theorem RowOf.nil {α:Type} (s:Nat) (R:List Value->α->Prop):RowOf s R [] []:=⟨by simp,λi h=>by simp at h⟩
theorem RowOf.imp {α:Type} {s:Nat} {R Q:List Value->α->Prop} {xs:List Value} {us:List α} (h:RowOf s R xs us) (hq:∀cs a,a∈us->R cs a->Q cs a):RowOf s Q xs us:=
 ⟨h.1,λi hi=>hq _ _ (A4k hi) (h.2 i hi)⟩
theorem RowOf.one {α:Type} {s:Nat} {R:List Value->α->Prop} {cs:List Value} {a:α} (hl:cs.length=s) (h:R cs a):RowOf s R cs [a]:=
 ⟨by simp[hl],λi hi=>by
  have:i=0:=by simp at hi;omega
  subst this;simpa[<-hl] using h⟩
def Awd (e:Stil.Elem):Prop:=(-1000000<=e.op/\e.op<=1000000)/\(∀d∈e.args,Small d)/\e.args.length<=100000
def Amo:Stil.Net->Prop
 | ⟨k,e,kids⟩=>(-1000000<=k/\k<=1000000)/\Awd e/\∀p∈kids.map Amo,p
theorem Ay2 (k:Int) (e:Stil.Elem) (kids:List Stil.Net):Amo ⟨k,e,kids⟩↔(-1000000<=k/\k<=1000000)/\Awd e/\∀x∈kids,Amo x:=by rw[Amo,Stil.all_map]
end Go.Proofs.YtbfljjcnbbmoaaaGreatDoor
namespace Go.Proofs.YtbfljjcnbbmoaaaGreatDoor
open Go.RowKit Go.Sort Go.BigFrame
theorem Gu {P:Program} {ops:Array Oper} {o:Oper} {a:Act} {w:World} {K:Act->World->Prop} {Q:Exit->Act->World->Prop} {E:Prop}
  (hg:o.guard=none) (s x:Operand) (t:TypeId) (hop:o.op=.call {callee:=.builtin .append,args:=#[s,x],argTypes:=#[t,t]})
  (base:Nat) (e:TypeId) (i:TypeInfo) (z:Value) (size bytes:Nat) (ht:P.underlying t=some (.slice e)) (hi:P.info? e=some i) (hz:i.zero=some z)
  (hsize:i.size=size) (hby:i.bytes=bytes) (hzs:z.cells.size=size) (hsz:0<size)
  (v:Value) (n:Nat) (xs:List Value) (hs:a.eval s=v) (hown:w.ownsRow base e size v n xs)
  (ad:Addr) (m c:Nat) (news:List Value) (hx:a.eval x=.slice (some ad) m c) (hl:news.length=m*size) (hnews:∀j u,news[j]?=some u->w.cell? (ad.add j)=some u) (h1:∀u∈news,u.oneCell'=true)
  (h63:n+m<=maxLen) (hbytes:(n+m)*bytes<=140737488355328) (hbase:base<=w.heap.size)
  (hK:∀v' w',w'.ownsRow base e size v' (n+m) (xs++news)->w.grownBy w' v.ownBlock->(v'.ownBlock=v.ownBlock\/v'.ownBlock=some w.heap.size)->K (a.put o.dst v') w'):
  if Region.wanted o (yielded ops a.tmps)=true then Oper.wp P o a w K Q else E:=by
 have hw:Region.wanted o (yielded ops a.tmps)=true:=by simp[Region.wanted,hg]
 rw[if_pos hw];obtain⟨v',w',hr,h2,h3,h4,h5⟩:=run_append_own_at (P:=P) w base t o.type e i z size bytes ht hi hz hsize hby hzs hsz v n xs hown ad m c news hl hnews h1 h63 hbytes hbase;unfold Oper.wp execOp;simp only[hop,resolve,invoke,builtin,Sem.run_bind,Sem.run_pure,Result.andThen_ok,List.map_toArray,A4v,List.map_nil,hs,hx,hr];exact hK v' w' h2 h3 h5
theorem Ze {w:World} {b o:Nat} {ds:List Stil.Dev} (h:∀i (h:i<ds.length),Ia w b (o+i*3) ds[i]):∀j u,(Bz ds)[j]?=some u->w.cell? ((⟨b,o,none⟩:Addr).add j)=some u:=by
 intro j u hu;have hj:=(List.getElem?_eq_some_iff.1 hu).1;have hlen:(Bz ds).length=ds.length*3:=by
  clear hu hj h;induction ds with
  | nil=>rfl
  | cons d r ih=>have e:Bz (d::r)=.int .i64 d.kind::.int .i64 d.n::.int .i64 d.p::Bz r:=rfl;rw[e];simp[ih];omega
 have hi:j / 3<ds.length:=by omega
 obtain⟨a1,a2,a3⟩:=Ls ds (j / 3) hi;obtain⟨c1,c2,c3⟩:=h (j / 3) hi;rw[Addr.add_lit];have hx:j=j / 3*3\/j=j / 3*3+1\/j=j / 3*3+2:=by omega
 rcases hx with e | e | e
 ·rw[e] at hu
  rw[hu] at a1;have e2:o+j=o+j / 3*3:=by omega
  rw[e2,c1];exact a1.symm
 ·rw[e] at hu
  rw[hu] at a2;have e2:o+j=o+j / 3*3+1:=by omega
  rw[e2,c2];exact a2.symm
 ·rw[e] at hu
  rw[hu] at a3;have e2:o+j=o+j / 3*3+2:=by omega
  rw[e2,c3];exact a3.symm
theorem Di {w w':World} {r:Option Nat} {b o:Nat} (h:w.grownBy w' r) (hb:b<w.heap.size) (hne:r≠some b):w'.cell? ⟨b,o,none⟩=w.cell? ⟨b,o,none⟩:=by
 simp only[World.cell?,h.block b hb (λe=>hne e.symm)]
theorem Gx {w w':World} {r:Option Nat} {b o:Nat} (h:w.grownBy w' r) (hb:b<w.heap.size) (hne:r≠some b):w'.frozen? ⟨b,o,none⟩=w.frozen? ⟨b,o,none⟩:=by
 simp only[World.frozen?,h.block b hb (λe=>hne e.symm)]
theorem Af {w:World} {base s n:Nat} {e:TypeId} {v:Value} {xs:List Value} (h:w.ownsRow base e s v n xs):∃a cap,v=.slice a n cap:=by
 rcases h.2 with⟨h0,h1⟩ | ⟨g,c,cur,h0,_⟩
 ·exact⟨none,0,by rw[h0,h1]⟩
 ·exact⟨_,_,h0⟩
set_option maxHeartbeats 1000000 in
set_option maxRecDepth 100000 in
theorem Afa (op:Int) (v:Value) (ds:List Stil.Dev) (w:World) (hat:Bg w v ds) (hl:ds.length<=1048576):
  Calls Tryz.prog 72 #[.agg #[.int .i64 op,v]] w λe w'=>∃u,e=.returned (.agg #[.int .i64 op,u])/\w'.ownsRow w.heap.size 86 3 u ds.length (Bz ds)/\Below w.heap.size w w':=by
 obtain⟨i0,hi,hz0,hz1,hz2⟩:=info_parts Aga;obtain⟨a,cap,rfl,hc⟩:=hat;by_cases hd:ds.length=0
 ·obtain rfl:ds=[]:=List.length_eq_zero_iff.1 hd
  clear hc;have hown:∀W:World,W.ownsRow w.heap.size 86 3 (.slice none 0 0) 0 []:=λW=>⟨rfl,Or.inl ⟨rfl,rfl⟩⟩
  cases a;all_goals
   go_enter Tryz.func72,Tryz.ntmps72
   go_upto_region 1 with fail
   go_region
   all_goals go_wp2
   all_goals exact bodyPost_ret (v:=.agg #[.int .i64 op, .slice none 0 0]) (by simp[results,Tryz.results72,go_sem]) rfl ⟨_,rfl,hown _,blA⟩
 ·obtain⟨b,o,rfl,hbl,_⟩:=hc 0 (by omega)
  have hc2:∀i (h:i<ds.length),Ia w b (o+i*3) ds[i]:=by
   intro i h;obtain⟨b1,o1,e1,_,h1⟩:=hc i h;simp only[Option.some.injEq,Addr.mk.injEq,and_true] at e1;obtain⟨rfl,rfl⟩:=e1;exact h1
  have HCC:Hid (∀W,Below w.heap.size w W->∀j u,(Bz ds)[j]?=some u->W.cell? ((⟨b,o,none⟩:Addr).add j)=some u):=by
   intro W hW;exact Ze (λi h=>(hc2 i h).below hW hbl)
  clear hc hc2;go_enter Tryz.func72,Tryz.ntmps72;obtain⟨W,hW⟩:∃W,W=(w.alloc (.cells #[.int .i64 op, .slice (some ⟨b,o,none⟩) ds.length cap] 49)).alloc (.cells #[.int .i64 0, .slice none 0 0] 49):=⟨_,rfl⟩
  have hsW:W.heap.size=w.heap.size+2:=by rw[hW];simp
  have q0:W.cell? ⟨w.heap.size,0,none⟩=some (.int .i64 op):=by rw[hW];simp[go_sem]
  have q1:W.cell? ⟨w.heap.size,1,none⟩=some (.slice (some ⟨b,o,none⟩) ds.length cap):=by rw[hW];simp[go_sem]
  have q2:W.cell? ⟨w.heap.size+1,0,none⟩=some (.int .i64 0):=by rw[hW];simp[go_sem]
  have q3:W.cell? ⟨w.heap.size+1,1,none⟩=some (.slice none 0 0):=by rw[hW];simp[go_sem]
  have p2:W.frozen? ⟨w.heap.size+1,0,none⟩=false:=by rw[hW];simp[go_sem]
  have p3:W.frozen? ⟨w.heap.size+1,1,none⟩=false:=by rw[hW];simp[go_sem]
  have hbW:Below w.heap.size w W:=by rw[hW];exact Bl (Aa _ _) _
  have HCW:=HCC.out W hbW;have HCX:=hid HCW;have HSW:=hid hsW;clear HCW;go_upto_region 1 with fail
  rw[<-hW];clear hW hsW HCC
  go_region_law (refine Gu rfl _ _ 47 rfl (w.heap.size+2) 86 i0 (.agg #[.int .i64 0, .int .i64 0, .int .i64 0]) 3 24 Tryz.underlying47 hi hz0 hz1 hz2 rfl (by decide) (.slice none 0 0) 0 [] rfl ⟨rfl,Or.inl ⟨rfl,rfl⟩⟩ _ _ _ (Bz ds) rfl (U0 ds) (by exact HCX.out) (Zf ds) (by unfold maxLen;omega) (by omega) (by have:=HSW.out;simp only[World.size_drew];omega) ?_;intro v' w6 hown6 hgr6 hat6;obtain⟨a6,c6,hv6⟩:=Af hown6;subst hv6;have hs6:w.heap.size+1<w6.heap.size:=(by have h1:=HSW.out;have h2:=hgr6.size;simp at h2;omega);have g0:w6.cell? ⟨w.heap.size,0,none⟩=some (.int .i64 op):=(Di hgr6 (by have h1:=HSW.out;simp;omega) (by simp[Value.ownBlock])).trans (by simpa using q0);have g2:w6.cell? ⟨w.heap.size+1,0,none⟩=some (.int .i64 0):=(Di hgr6 (by have h1:=HSW.out;simp;omega) (by simp[Value.ownBlock])).trans (by simpa using q2);have g3:w6.cell? ⟨w.heap.size+1,1,none⟩=some (.slice none 0 0):=(Di hgr6 (by have h1:=HSW.out;simp;omega) (by simp[Value.ownBlock])).trans (by simpa using q3);have y2:w6.frozen? ⟨w.heap.size+1,0,none⟩=false:=(Gx hgr6 (by have h1:=HSW.out;simp;omega) (by simp[Value.ownBlock])).trans (by simpa using p2);have y3:w6.frozen? ⟨w.heap.size+1,1,none⟩=false:=(Gx hgr6 (by have h1:=HSW.out;simp;omega) (by simp[Value.ownBlock])).trans (by simpa using p3))
  all_goals go_wp2
  all_goals
   refine bodyPost_ret (v:=.agg #[.int .i64 op, .slice a6 (0+ds.length) c6]) (by simp[results,Tryz.results72,go_sem,g2,g3]) rfl ⟨_,rfl,?_,?_⟩
   ·have h0:=ownsRow_setCell_below (a:=⟨w.heap.size+1,1,none⟩) (ownsRow_setCell_below (a:=⟨w.heap.size+1,0,none⟩) hown6 (Nat.lt_succ_self _) (.int .i64 op)) (Nat.lt_succ_self _) (.slice a6 (0+ds.length) c6)
    have h1:=Joins.ownsRow_le h0 (show w.heap.size<=w.heap.size+2 by omega);simpa using h1
   ·have hbg:=(Below.refl W.heap.size W).drew.grown hgr6 (A4i _) (λk hk=>by simp[Value.ownBlock] at hk)
    have hb6:=hbW.trans (hbg.mono (by have:=HSW.out;omega));exact(hb6.setCell (by simp) _).setCell (by simp) _
theorem Ac0 (w:World) (r:Option Nat):w.grownBy w r:=⟨rfl,rfl,rfl,A4i _,λ_ _ _=>rfl⟩
theorem Ox {ops:Array Oper} {o:Oper} {a:Act} {w:World} {K:Act->World->Prop} {Q:Exit->Act->World->Prop} {E:Prop}
  (hg:o.guard=none) (s x:Operand) (hop:o.op=.call {callee:=.builtin .append,args:=#[s,x],argTypes:=#[47,47]})
  (base:Nat) (N:Nat) (ds:List Stil.Dev) (hs:a.eval s=.slice (some ⟨N,0,none⟩) 0 0) (hown:w.ownsRow base 86 3 (.slice (some ⟨N,0,none⟩) 0 0) 0 [])
  (t0:Option Addr) (u0:Nat) (hx:a.eval x=.slice t0 ds.length u0) (hat:Bg w (.slice t0 ds.length u0) ds) (hl:ds.length<=1048576) (hbase:base<=w.heap.size)
  (hK:∀v' w',w'.ownsRow base 86 3 v' ds.length (Bz ds)->w.grownBy w' (some N)->K (a.put o.dst v') w'):
  if Region.wanted o (yielded ops a.tmps)=true then Oper.wp Tryz.prog o a w K Q else E:=by
 obtain⟨i0,hi,hz0,hz1,hz2⟩:=info_parts Aga;by_cases hd:ds.length=0
 ·have hn:=List.length_eq_zero_iff.1 hd
  subst hn;have hw:Region.wanted o (yielded ops a.tmps)=true:=by simp[Region.wanted,hg]
  rw[if_pos hw];have hk:=hK _ w hown (Ac0 _ _);unfold Oper.wp execOp;cases t0
  ·have e:Sem.run Tryz.prog (Builtin.append_ #[47,47] o.type #[.slice (some ⟨N,0,none⟩) 0 0, .slice none 0 u0]) w=.ok (.slice (some ⟨N,0,none⟩) 0 0) w:=by simp[Builtin.append_,go_sem]
   simp only[hop,resolve,invoke,builtin,Sem.run_bind,Sem.run_pure,Result.andThen_ok,List.map_toArray,A4v,List.map_nil,hs,hx,A4f,e];exact hk
  ·rename_i t1
   have e:Sem.run Tryz.prog (Builtin.append_ #[47,47] o.type #[.slice (some ⟨N,0,none⟩) 0 0, .slice (some t1) 0 u0]) w=.ok (.slice (some ⟨N,0,none⟩) 0 0) w:=by simp[Builtin.append_,go_sem]
   simp only[hop,resolve,invoke,builtin,Sem.run_bind,Sem.run_pure,Result.andThen_ok,List.map_toArray,A4v,List.map_nil,hs,hx,A4f,e];exact hk
 ·obtain⟨a1,c1,hv,hc⟩:=hat
  simp only[Value.slice.injEq] at hv;obtain⟨rfl,_,rfl⟩:=hv;obtain⟨b,o1,rfl,hbl,_⟩:=hc 0 (by omega);have hc2:∀i (h:i<ds.length),Ia w b (o1+i*3) ds[i]:=by
   intro i h;obtain⟨b1,o2,e1,_,h1⟩:=hc i h;simp only[Option.some.injEq,Addr.mk.injEq,and_true] at e1;obtain⟨rfl,rfl⟩:=e1;exact h1
  refine Gu hg s x _ hop base 86 i0 _ 3 24 Tryz.underlying47 hi hz0 hz1 hz2 rfl (by decide) _ 0 [] hs hown _ _ _ (Bz ds) hx (U0 ds) (Ze hc2) (Zf ds) (by unfold maxLen;omega) (by omega) hbase ?_;intro v' w' h1 h2 _;rw[A4m,A44] at h1;exact hK v' w' h1 h2
end Go.Proofs.YtbfljjcnbbmoaaaGreatDoor
namespace Go.Proofs.YtbfljjcnbbmoaaaGreatDoor
open Go.RowKit Go.Sort Go.BigFrame
def Aoe (w:World) (b o:Nat) (i:Stil.Ht):Prop:=w.cell? ⟨b,o,none⟩=some (.int .i64 i.code)/\w.cell? ⟨b,o+1,none⟩=some (.int .i64 i.one.op)/\∃av,w.cell? ⟨b,o+2,none⟩=some av/\Bg w av i.one.args
def Jf (w:World) (v:Value) (l:List Stil.Ht):Prop:=∃a cap,v=.slice a l.length cap/\∀i (h:i<l.length),∃b o,a=some ⟨b,o,none⟩/\b<w.heap.size/\Aoe w b (o+i*3) l[i]
theorem Aoe.below {w w':World} {b o:Nat} {i:Stil.Ht} (h:Aoe w b o i) (hb:Below w.heap.size w w') (hlt:b<w.heap.size):Aoe w' b o i:=by
 obtain⟨h1,h2,av,h3,h4⟩:=h;exact⟨by rw[hb.cell (p:=⟨b,o,none⟩) hlt];exact h1,by rw[hb.cell (p:=⟨b,o+1,none⟩) hlt];exact h2,av,by rw[hb.cell (p:=⟨b,o+2,none⟩) hlt];exact h3,h4.below hb⟩
theorem Jf.below {w w':World} {v:Value} {l:List Stil.Ht} (h:Jf w v l) (hb:Below w.heap.size w w'):Jf w' v l:=by
 obtain⟨a,cap,hv,hc⟩:=h;refine⟨a,cap,hv,λi hi=>?_⟩;obtain⟨b,o,ha,hlt,hn⟩:=hc i hi;exact⟨b,o,ha,A4c hlt hb.size,hn.below hb hlt⟩
def Abq (lo:Nat) (w:World) (b o:Nat) (i:Stil.Ht):Prop:=w.cell? ⟨b,o,none⟩=some (.int .i64 i.code)/\w.cell? ⟨b,o+1,none⟩=some (.int .i64 i.one.op)/\∃av,w.cell? ⟨b,o+2,none⟩=some av/\Ha lo w av i.one.args
def Td (lo:Nat) (w:World) (v:Value) (l:List Stil.Ht):Prop:=∃a cap,v=.slice a l.length cap/\∀i (h:i<l.length),∃b o,a=some ⟨b,o,none⟩/\lo<=b/\b<w.heap.size/\Abq lo w b (o+i*3) l[i]
theorem Abq.keep {lo:Nat} {w w':World} {b o:Nat} {i:Stil.Ht} (h:Abq lo w b o i) (hk:Jd lo w w') (hl:lo<=b) (hb:b<w.heap.size):Abq lo w' b o i:=by
 obtain⟨h1,h2,av,h3,h4⟩:=h;exact⟨by rw[hk.2 _ _ hl hb];exact h1,by rw[hk.2 _ _ hl hb];exact h2,av,by rw[hk.2 _ _ hl hb];exact h3,h4.keep hk⟩
theorem Td.keep {lo:Nat} {w w':World} {v:Value} {l:List Stil.Ht} (h:Td lo w v l) (hk:Jd lo w w'):Td lo w' v l:=by
 obtain⟨a,cap,hv,hc⟩:=h;refine⟨a,cap,hv,λi hi=>?_⟩;obtain⟨b,o,ha,hl,hb,hd⟩:=hc i hi;exact⟨b,o,ha,hl,A4c hb hk.1,hd.keep hk hl hb⟩
theorem Td.at {lo:Nat} {w:World} {v:Value} {l:List Stil.Ht} (h:Td lo w v l):Jf w v l:=by
 obtain⟨a,cap,hv,hc⟩:=h;refine⟨a,cap,hv,λi hi=>?_⟩;obtain⟨b,o,ha,hl',hb,h1,h2,av,h3,h4⟩:=hc i hi;exact⟨b,o,ha,hb,h1,h2,av,h3,h4.at⟩
end Go.Proofs.YtbfljjcnbbmoaaaGreatDoor
namespace Go.Proofs.YtbfljjcnbbmoaaaGreatDoor
open Go.RowKit Go.Sort Go.BigFrame
theorem Y7:(Tryz.prog.info? 58).map (λi=>(i.zero,i.size,i.bytes))=some (some (.agg #[.int .i64 0, .int .i64 0, .slice none 0 0]),3,40):=by kernel_rfl
end Go.Proofs.YtbfljjcnbbmoaaaGreatDoor
set_option maxHeartbeats 4000000
set_option maxRecDepth 100000
namespace Go.Proofs.YtbfljjcnbbmoaaaGreatDoor
open Go.RowKit Go.Sort Go.BigFrame
theorem Auo (x:Stil.Elem) (hx:x.fits):∀(av avq:Value) (w:World),Bg w av x.args->Bg w avq x.args->Calls Tryz.prog 46 #[.agg #[.int .i64 x.op,av], .agg #[.int .i64 x.op,avq]] w λe w'=>e=.returned (.bool true)/\Below w.heap.size w w':=by
 intro av avq w hav havq;refine(Ani x.op x.op av avq x.args x.args w hav havq hx.2.1 hx.2.1).mono ?_;rintro e w1 ⟨rfl,hb⟩;exact⟨Ap (by simp),hb⟩
theorem Ax4 (x:Stil.Ht) (hx:x.fits):∀(av avq:Value) (w:World),Bg w av x.one.args->Bg w avq x.one.args->Calls Tryz.prog 23 #[.agg #[.int .i64 x.code, .int .i64 x.one.op,av], .agg #[.int .i64 x.code, .int .i64 x.one.op,avq]] w λe w'=>e=.returned (.bool true)/\Below w.heap.size w w':=by
 intro av avq w hav havq;have H1:=hid (λW hW=>Auo x.one hx.2 av avq W (hav.below hW) (havq.below hW));obtain⟨p0,r0,rfl,_⟩:=hav;obtain⟨p2,r2,rfl,_⟩:=havq;clear hx;go_enter Tryz.func23,Tryz.ntmps23
 go_wp2_with (go_at_call 46;refine(H1.out _ blA).mono ?_;rintro e w1 ⟨rfl,hb⟩)
 go_ret;exact⟨rfl,blA⟩
theorem Aum (es:List Stil.Ht) (ih:∀x∈es,∀(av avq:Value) (w:World),Bg w av x.one.args->Bg w avq x.one.args->Calls Tryz.prog 23 #[.agg #[.int .i64 x.code, .int .i64 x.one.op,av], .agg #[.int .i64 x.code, .int .i64 x.one.op,avq]] w λe w'=>e=.returned (.bool true)/\Below w.heap.size w w') (v u:Value) (w:World) (hat:Jf w v es) (hau:Jf w u es) (hl:es.length<=1048576):
  Calls Tryz.prog 9 #[v,u] w λe w'=>e=.returned (.bool true)/\Below w.heap.size w w':=by
 obtain⟨a,cap,rfl,hc⟩:=hat;obtain⟨a2,cap2,rfl,hc2⟩:=hau;have HA:=hid hc;have HB:=hid hc2;have IH:=hid ih;clear hc hc2 ih;go_enter Tryz.func9,Tryz.ntmps9
 go_wp2
 go_loopw [5] (λi wr=>∃k:Nat,k<=es.length/\i=.int .i64 k/\Below w.heap.size w wr) (λi _=>es.length - (intOf i).toNat)
 case atStart=>exact⟨0,by omega,rfl,Below.refl _ _⟩
 case round=>
  obtain⟨k,hk,rfl,hb⟩:=hrel;by_cases hlt:k<es.length
  ·obtain⟨b,o,rfl,hbl,hn⟩:=HA.out k hlt
   have hn2:=(hn.below hb hbl)
   obtain⟨b2,o2,rfl,hbl2,hm⟩:=HB.out k hlt;have hm2:=(hm.below hb hbl2)
   obtain⟨x0,x1,av,x2,hav⟩:=id hn2;obtain⟨y0,y1,avq,y2,havq⟩:=id hm2;have HI:=hid (λW hW=>IH.out es[k] (A4k hlt) _ _ W (hav.below hW) (havq.below hW));obtain⟨x,hx⟩:∃x,x=es[k]:=⟨_,rfl⟩
   rw[<-hx] at HI x0 x1 y0 y1;obtain⟨p0,r0,rfl,_⟩:=hav;obtain⟨pq0,rq0,rfl,_⟩:=havq;clear hx hn hn2 hm hm2;have rx0:=cell_regrown x0;have ry0:=cell_regrown y0;have rx1:=cell_regrown x1;have ry1:=cell_regrown y1;have rx2:=cell_regrown x2;have ry2:=cell_regrown y2
   go_wp2
   refine wp_region_quiet_below (by kernel_rfl) (by kernel_rfl) ?_;repeat (go_big_quiet_step ((exact Calls.regrown_of (HI.out _ blB))))
   refine wpQuiet_nil ?_;intro _ hw';obtain⟨⟨dq,osq⟩,hw''⟩:=hw';subst hw''
   go_wp2
   exact⟨⟨k+1,by omega,by go_num,G7 hb _ _⟩,by simp[intOf];omega⟩
  ·go_wp2
   go_ret;exact⟨rfl,hb⟩
end Go.Proofs.YtbfljjcnbbmoaaaGreatDoor
