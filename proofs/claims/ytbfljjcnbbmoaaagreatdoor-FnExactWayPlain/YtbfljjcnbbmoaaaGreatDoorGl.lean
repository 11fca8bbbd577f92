import Derived.Test.YtbfljjcnbbmoaaaGreatDoorGp
import Derived.Test.YtbfljjcnbbmoaaaGreatDoorGf
namespace Go.Proofs.YtbfljjcnbbmoaaaGreatDoor
open Stil
open Go.RowKit Go.Sort Go.BigFrame
def Aside (u v:Value):Prop:=u.ownBlock=none\/u.ownBlock≠v.ownBlock
theorem Aside.symm {u v:Value} (h:Aside u v):Aside v u:=by
 rcases h with h | h
 ·by_cases e:v.ownBlock=none
  ·exact .inl e
  ·exact .inr (by rw[h];exact e)
 ·exact .inr (λe=>h e.symm)
theorem Aside.no {u v:Value} {k:Nat} (h:Aside u v) (hu:u.ownBlock=some k) (hv:v.ownBlock=some k):False:=by
 rcases h with h | h
 ·rw[hu] at h;cases h
 ·exact h (by rw[hu,hv])
theorem Eb {x y:Value} {n:Nat} (hx:∀k,x.ownBlock=some k->k<n) (hy:∀k,y.ownBlock=some k->n<=k):Aside x y:=by
 by_cases e:x.ownBlock=none
 ·exact .inl e
 ·obtain⟨k,hk⟩:=Option.ne_none_iff_exists'.1 e
  refine .inr (λe2=>?_);rw[hk] at e2;have h1:=hx k hk;have h2:=hy k e2.symm;omega
structure Ah where
 kind:Int
 op:Int
 ds:List Stil.Dev
 av:Value
 kv:Value
 kids:List Ah
theorem Ir (P:Ah->Prop) (h:∀k op ds av kv kids,(∀x∈kids,P x)->P ⟨k,op,ds,av,kv,kids⟩):∀n,P n
 | ⟨k,op,ds,av,kv,kids⟩=>h k op ds av kv kids (λx _=>Ir P h x)
def Ah.net:Ah->Stil.Net
 | ⟨k,op,ds,_,_,kids⟩=>⟨k,⟨op,ds⟩,kids.map Ah.net⟩
theorem Ah.net_eq (m:Ah):m.net=⟨m.kind,⟨m.op,m.ds⟩,m.kids.map Ah.net⟩:=by obtain⟨k,op,ds,av,kv,kids⟩:=m;rw[Ah.net]
def Ah.vals:Ah->List Value
 | ⟨_,_,_,av,kv,kids⟩=>av::kv::(kids.map Ah.vals).flatten
def Eh (ms:List Ah):List Value:=(ms.map Ah.vals).flatten
theorem Ah.vals_eq (m:Ah):m.vals=m.av::m.kv::Eh m.kids:=by obtain⟨k,op,ds,av,kv,kids⟩:=m;rw[Ah.vals];rfl
theorem Lc (a b:List Ah):Eh (a++b)=Eh a++Eh b:=by simp[Eh]
theorem Iz (m:Ah):Eh [m]=m.vals:=by simp[Eh]
theorem Iw {ms:List Ah} {x:Value}:x∈Eh ms↔∃m∈ms,x∈m.vals:=by
 simp only[Eh,List.mem_flatten,A4x];constructor
 ·rintro⟨_,⟨m,hm,rfl⟩,hx⟩;exact⟨m,hm,hx⟩
 ·rintro⟨m,hm,hx⟩;exact⟨_,⟨m,hm,rfl⟩,hx⟩
def Ah.cells (m:Ah):List Value:=[.int .i64 m.kind, .int .i64 m.op,m.av,m.kv]
def F9 (ms:List Ah):List Value:=ms.flatMap Ah.cells
theorem Y4 (a b:List Ah):F9 (a++b)=F9 a++F9 b:=by simp[F9]
theorem Apo (m:Ah):F9 [m]=m.cells:=by simp[F9]
theorem Wi (ms:List Ah):(F9 ms).length=ms.length*4:=by
 induction ms with
 | nil=>rfl
 | cons m r ih=>
  have e:F9 (m::r)=m.cells++F9 r:=rfl;rw[e,A4d,ih];simp[Ah.cells];omega
theorem I9:∀(ms:List Ah) (i:Nat) (h:i<ms.length),(F9 ms)[i*4]?=some (.int .i64 ms[i].kind)/\(F9 ms)[i*4+1]?=some (.int .i64 ms[i].op)/\(F9 ms)[i*4+2]?=some ms[i].av/\(F9 ms)[i*4+3]?=some ms[i].kv
 | [],_,h=>by simp at h
 | m::r,0,_=>⟨rfl,rfl,rfl,rfl⟩
 | m::r,i+1,h=>by
  obtain⟨a1,a2,a3,a4⟩:=I9 r i (by simpa using h);have e:F9 (m::r)=.int .i64 m.kind::.int .i64 m.op::m.av::m.kv::F9 r:=rfl;have e1:(i+1)*4=i*4+1+1+1+1:=by omega
  rw[e,e1];exact⟨by simpa using a1,by simpa using a2,by simpa using a3,by simpa using a4⟩
def MOk (w:World) (base:Nat):Ah->Prop
 | ⟨_,_,ds,av,kv,kids⟩=>w.ownsRow base 86 3 av ds.length (Bz ds)/\w.ownsRow base 52 4 kv kids.length (F9 kids)/\∀p∈kids.map (MOk w base),p
theorem Hq (w:World) (base:Nat) (m:Ah):MOk w base m↔w.ownsRow base 86 3 m.av m.ds.length (Bz m.ds)/\w.ownsRow base 52 4 m.kv m.kids.length (F9 m.kids)/\∀x∈m.kids,MOk w base x:=by
 obtain⟨k,op,ds,av,kv,kids⟩:=m;rw[MOk,Stil.all_map]
theorem MOk.map {w w':World} {base base':Nat} (m:Ah) (h:MOk w base m) (hk:∀(e:TypeId) (s n:Nat) (v:Value) (xs:List Value),v∈m.vals->w.ownsRow base e s v n xs->w'.ownsRow base' e s v n xs):MOk w' base' m:=by
 revert h hk
 refine Ir (λm=>MOk w base m->(∀(e:TypeId) (s n:Nat) (v:Value) (xs:List Value),v∈m.vals->w.ownsRow base e s v n xs->w'.ownsRow base' e s v n xs)->MOk w' base' m) ?_ m;intro k op ds av kv kids ih h hk;rw[Hq] at h ⊢;simp only[Ah.vals_eq] at hk;refine⟨hk _ _ _ _ _ (by simp) h.1,hk _ _ _ _ _ (by simp) h.2.1,λx hx=>ih x hx (h.2.2 x hx) (λe s n v xs hv=>hk e s n v xs ?_)⟩;exact A4h _ (A4h _ (Iw.2 ⟨x,hx,hv⟩))
theorem MOk.below {w w':World} {base:Nat} {m:Ah} (h:MOk w base m) (hb:Below w.heap.size w w'):MOk w' base m:=MOk.map m h (λ_ _ _ _ _ _ ho=>ownsRow_below ho hb)
theorem MOk.kept {w w':World} {base:Nat} {m:Ah} {x:Value} (h:MOk w base m) (hg:w.grownBy w' x.ownBlock) (ha:∀u∈m.vals,Aside u x):MOk w' base m:=MOk.map m h (λ_ _ _ _ _ hv ho=>ho.kept hg (ha _ hv))
theorem MOk.le {w:World} {base base':Nat} {m:Ah} (h:MOk w base m) (hl:base'<=base):MOk w base' m:=MOk.map m h (λ_ _ _ _ _ _ ho=>Joins.ownsRow_le ho hl)
theorem MOk.lt {w:World} {base:Nat} (m:Ah) (h:MOk w base m):∀x∈m.vals,∀k,x.ownBlock=some k->base<=k/\k<w.heap.size:=by
 revert h
 refine Ir (λm=>MOk w base m->∀x∈m.vals,∀k,x.ownBlock=some k->base<=k/\k<w.heap.size) ?_ m;intro k op ds av kv kids ih h x hx j hj;rw[Hq] at h;rw[Ah.vals_eq] at hx;simp only[A4y] at hx;rcases hx with rfl | rfl | hx
 ·exact h.1.lt j hj
 ·exact h.2.1.lt j hj
 ·obtain⟨y,hy,hx⟩:=Iw.1 hx
  exact ih y hy (h.2.2 y hy) x hx j hj
def Ib (w:World) (base:Nat) (m:Ah):Prop:=MOk w base m/\m.vals.Pairwise Aside
theorem Ib.below {w w':World} {base:Nat} {m:Ah} (h:Ib w base m) (hb:Below w.heap.size w w'):Ib w' base m:=⟨h.1.below hb,h.2⟩
theorem Ib.le {w:World} {base base':Nat} {m:Ah} (h:Ib w base m) (hl:base'<=base):Ib w base' m:=⟨h.1.le hl,h.2⟩
def Jt (w:World) (base:Nat) (v:Value) (ms:List Ah):Prop:=w.ownsRow base 52 4 v ms.length (F9 ms)/\(∀m∈ms,MOk w base m)/\(v::Eh ms).Pairwise Aside
theorem Jt.nil (w:World) (base:Nat):Jt w base (.slice none 0 0) []:=⟨World.ownsRow_nil _ _ _ _,(λm hm=>by cases hm),List.pairwise_singleton _ _⟩
theorem Jt.below {w w':World} {base:Nat} {v:Value} {ms:List Ah} (h:Jt w base v ms) (hb:Below w.heap.size w w'):Jt w' base v ms:=⟨ownsRow_below h.1 hb,λm hm=>(h.2.1 m hm).below hb,h.2.2⟩
theorem Jt.le {w:World} {base base':Nat} {v:Value} {ms:List Ah} (h:Jt w base v ms) (hl:base'<=base):Jt w base' v ms:=⟨Joins.ownsRow_le h.1 hl,λm hm=>(h.2.1 m hm).le hl,h.2.2⟩
theorem Jt.lt {w:World} {base:Nat} {v:Value} {ms:List Ah} (h:Jt w base v ms):∀x∈v::Eh ms,∀k,x.ownBlock=some k->base<=k/\k<w.heap.size:=by
 intro x hx k hk;rcases List.mem_cons.1 hx with rfl | hx
 ·exact h.1.lt k hk
 ·obtain⟨m,hm,hx⟩:=Iw.1 hx
  exact(h.2.1 m hm).lt m x hx k hk
theorem Jt.add {w w':World} {base:Nat} {v v':Value} {ms ks:List Ah} (h:Jt w base v ms) (hk:∀m∈ks,MOk w base m) (hp:(v::(Eh ms++Eh ks)).Pairwise Aside)
  (hown:w'.ownsRow base 52 4 v' (ms.length+ks.length) (F9 ms++F9 ks)) (hg:w.grownBy w' v.ownBlock) (hat:v'.ownBlock=v.ownBlock\/v'.ownBlock=some w.heap.size):Jt w' base v' (ms++ks):=by
 rw[A4z] at hp;have hkl:∀x∈Eh ms++Eh ks,∀k,x.ownBlock=some k->k<w.heap.size:=by
  intro x hx k hk2;rcases List.mem_append.1 hx with hx | hx
  ·exact(h.lt x (A4h _ hx) k hk2).2
  ·obtain⟨m,hm,hx⟩:=Iw.1 hx
   exact((hk m hm).lt m x hx k hk2).2
 refine⟨by rw[A4d,Y4];exact hown,λm hm=>?_,?_⟩
 ·rcases List.mem_append.1 hm with hm | hm
  ·exact(h.2.1 m hm).kept hg (λu hu=>(hp.1 u (A4o _ (Iw.2 ⟨m,hm,hu⟩))).symm)
  ·exact(hk m hm).kept hg (λu hu=>(hp.1 u (A4l _ (Iw.2 ⟨m,hm,hu⟩))).symm)
 ·rw[Lc,A4z]
  refine⟨λy hy=>?_,hp.2⟩;rcases hat with e | e
  ·rcases hp.1 y hy with h0 | h0
   ·exact .inl (by rw[e];exact h0)
   ·exact .inr (by rw[e];exact h0)
  ·refine .inr (λe2=>?_)
   rw[e] at e2;have:=hkl y hy _ e2.symm
   omega
theorem Jt.apart {w w1:World} {base:Nat} {v:Value} {ms ks:List Ah} {b1:Nat} (h:Jt w base v ms) (hk:∀m∈ks,MOk w1 b1 m) (hb:w.heap.size<=b1) (hp:(Eh ks).Pairwise Aside):(v::(Eh ms++Eh ks)).Pairwise Aside:=by
 have hx:=h.lt;have hy:∀y∈Eh ks,∀k,y.ownBlock=some k->w.heap.size<=k:=by
  intro y hy k hk2;obtain⟨m,hm,hy⟩:=Iw.1 hy;exact A4p hb ((hk m hm).lt m y hy k hk2).1
 have h2:=h.2.2;rw[A4z] at h2 ⊢;refine⟨λy hy2=>?_,List.pairwise_append.2 ⟨h2.2,hp,λx hx2 y hy2=>Eb (λk hk2=>(hx x (A4h _ hx2) k hk2).2) (hy y hy2)⟩⟩;rcases List.mem_append.1 hy2 with hy2 | hy2
 ·exact h2.1 y hy2
 ·exact Eb (λk hk2=>(hx v (by simp) k hk2).2) (hy y hy2)
theorem Ib.kids {w:World} {base:Nat} {m:Ah} (h:Ib w base m):(∀x∈m.kids,MOk w base x)/\(Eh m.kids).Pairwise Aside:=by
 refine⟨((Hq w base m).1 h.1).2.2,?_⟩;have h2:=h.2;rw[Ah.vals_eq,A4z,A4z] at h2;exact h2.2.2
theorem Jt.one {w:World} {base:Nat} {v:Value} {ms:List Ah} (h:Jt w base v ms) (i:Nat) (hi:i<ms.length):Ib w base ms[i]:=by
 refine⟨h.2.1 _ (A4k hi),?_⟩;have h2:=(List.pairwise_cons.1 h.2.2).2;unfold Eh at h2;rw[List.pairwise_flatten] at h2;exact h2.1 _ (List.mem_map.2 ⟨_,A4k hi,rfl⟩)
theorem Jt.net {w:World} {base:Nat} {v av:Value} {ms:List Ah} (k op:Int) (ds:List Stil.Dev) (h:Jt w base v ms) (ha:w.ownsRow base 86 3 av ds.length (Bz ds)) (hd:∀x∈v::Eh ms,Aside av x):Ib w base ⟨k,op,ds,av,v,ms⟩:=by
 refine⟨(Hq _ _ _).2 ⟨ha,h.1,h.2.1⟩,?_⟩;rw[Ah.vals_eq,A4z];exact⟨hd,h.2.2⟩
theorem Lu (x:Value):Aside (.slice none 0 0) x:=.inl rfl
theorem MOk.from {w:World} {base:Nat} (m:Ah) (h:MOk w base m):Ha base w m.av m.net.one.args/\Rh base w m.kv m.net.kids:=by
 revert h
 refine Ir (λm=>MOk w base m->Ha base w m.av m.net.one.args/\Rh base w m.kv m.net.kids) ?_ m;intro k op ds av kv kids ih h;rw[Hq] at h;rw[Ah.net_eq];refine⟨Ha.of_owns h.1,?_⟩;simp only at h ⊢;by_cases hz:kids.length=0
 ·obtain⟨a,cap,rfl⟩:=Af h.2.1
  exact⟨a,cap,by simp,λi hi=>absurd hi (by simp;omega)⟩
 ·obtain⟨g,cap,hv,hbase,hlt,_,hcell⟩:=Aw h.2.1 (by omega)
  subst hv;refine⟨_,cap,by simp,λi hi=>⟨g,0,rfl,hbase,hlt,?_⟩⟩;have hi':i<kids.length:=by simpa using hi
  obtain⟨a1,a2,a3,a4⟩:=I9 kids i hi';obtain⟨f1,f2⟩:=ih _ (A4k hi') (h.2.2 _ (A4k hi'));rw[List.getElem_map,Adq,A4m];have e:=Ah.net_eq kids[i];have e1:kids[i].net.kind=kids[i].kind:=by rw[e]
  have e2:kids[i].net.one.op=kids[i].op:=by rw[e]
  rw[e1,e2];exact⟨hcell _ _ a1,hcell _ _ a2,⟨_,hcell _ _ a3,f1⟩,⟨_,hcell _ _ a4,f2⟩⟩
def vb (v:Value):Nat:=v.ownBlock.getD 0
def Gi (s b:Nat):Nat->List (List Pl)->List Pl
 | _,[]=>[]
 | o,q::r=>(b,o)::(b,o+1)::(q++Gi s b (o+s) r)
theorem Rt (s b:Nat):∀(qs:List (List Pl)) (o i:Nat) (h:i<qs.length),Gi s b o (qs.take (i+1))=Gi s b o (qs.take i)++((b,o+i*s)::(b,o+i*s+1)::qs[i])
 | [],_,_,h=>by simp at h
 | q::r,o,0,_=>by simp[Gi]
 | q::r,o,i+1,h=>by
  have ih:=Rt s b r (o+s) i (by simpa using h);rw[List.take_succ_cons,List.take_succ_cons,Gi,Gi,ih];have e:o+s+i*s=o+(i+1)*s:=by rw[Nat.succ_mul];omega
  simp[e]
theorem P5 (s b:Nat):∀(qs:List (List Pl)) (o i:Nat),i<=qs.length->Gi s b o qs=Gi s b o (qs.take i)++Gi s b (o+i*s) (qs.drop i)
 | qs,o,0,_=>by simp[Gi]
 | [],_,i+1,h=>by simp at h
 | q::r,o,i+1,h=>by
  have ih:=P5 s b r (o+s) i (by simpa using h);rw[List.take_succ_cons,List.drop_succ_cons,Gi,Gi,ih];have e:o+s+i*s=o+(i+1)*s:=by rw[Nat.succ_mul];omega
  simp[e]
theorem Ahp (s b:Nat):∀(qs:List (List Pl)) (o:Nat),qs.length<=(Gi s b o qs).length:=by
 intro qs;induction qs with
 | nil=>intro o;simp
 | cons q r ih=>intro o;have:=ih (o+s);simp[Gi];omega
theorem Oa (s b:Nat):∀(qs:List (List Pl)) (o:Nat) (p:Pl),p∈Gi s b o qs->(∃i,i<qs.length/\(p=(b,o+i*s)\/p=(b,o+i*s+1)))\/∃q∈qs,p∈q
 | [],_,p,h=>by simp[Gi] at h
 | q::r,o,p,h=>by
  rw[Gi] at h;simp only[A4y,A4q] at h;rcases h with h | h | h | h
  ·exact .inl ⟨0,by simp, .inl (by simpa using h)⟩
  ·exact .inl ⟨0,by simp, .inr (by simpa using h)⟩
  ·exact .inr ⟨q,by simp,h⟩
  ·rcases Oa s b r (o+s) p h with⟨i,hi,hp⟩ | ⟨q',hq',hp⟩
   ·refine .inl ⟨i+1,by simp;omega,?_⟩
    have e:o+s+i*s=o+(i+1)*s:=by rw[Nat.succ_mul];omega
    rwa [e] at hp
   ·exact .inr ⟨q',A4h _ hq',hp⟩
theorem Xy (s b:Nat) (hs:2<=s):∀(qs:List (List Pl)) (o:Nat),(∀q∈qs,q.Nodup/\∀p∈q,p.1≠b)->qs.Pairwise (λq r=>∀p∈q,p∉r)->(Gi s b o qs).Nodup
 | [],_,_,_=>List.nodup_nil
 | q::r,o,h1,h2=>by
  have ih:=Xy s b hs r (o+s) (λx hx=>h1 x (A4h _ hx)) (List.pairwise_cons.1 h2).2;obtain⟨hq1,hq2⟩:=h1 q (by simp);have hr:∀p∈Gi s b (o+s) r,p≠(b,o)/\p≠(b,o+1)/\p∉q:=by
   intro p hp;rcases Oa s b r (o+s) p hp with⟨i,_,hp | hp⟩ | ⟨x,hx,hp⟩
   ·subst hp
    refine⟨λe=>?_,λe=>?_,λe=>hq2 _ e rfl⟩
    ·have:=(Prod.mk.inj e).2;omega
    ·have:=(Prod.mk.inj e).2;omega
   ·subst hp
    refine⟨λe=>?_,λe=>?_,λe=>hq2 _ e rfl⟩
    ·have:=(Prod.mk.inj e).2;omega
    ·have:=(Prod.mk.inj e).2;omega
   ·have hx2:=(h1 x (A4h _ hx)).2 p hp
    refine⟨λe=>hx2 (by rw[e]),λe=>hx2 (by rw[e]),λe=>(List.pairwise_cons.1 h2).1 x hx p e hp⟩
  rw[Gi,List.nodup_cons,List.nodup_cons,A5e];refine⟨λh=>?_,λh=>?_,hq1,ih,λa ha c hc e=>?_⟩
  ·rcases List.mem_cons.1 h with h | h
   ·have:=(Prod.mk.inj h).2;omega
   ·rcases List.mem_append.1 h with h | h
    ·exact hq2 _ h rfl
    ·exact(hr _ h).1 rfl
  ·rcases List.mem_append.1 h with h | h
   ·exact hq2 _ h rfl
   ·exact(hr _ h).2.1 rfl
  ·subst e;exact(hr _ hc).2.2 ha
def Ah.inner:Ah->List Pl
 | ⟨_,_,ds,av,kv,kids⟩=>Iu (vb av) ds.length++Gi 4 (vb kv) 0 (kids.map Ah.inner)
def Ah.dps (m:Ah):List Pl:=Iu (vb m.av) m.ds.length
def Ah.rps (m:Ah):List Pl:=Gi 4 (vb m.kv) 0 (m.kids.map Ah.inner)
theorem Ah.inner_eq (m:Ah):m.inner=m.dps++m.rps:=by obtain⟨k,op,ds,av,kv,kids⟩:=m;rw[Ah.inner];rfl
def MSh (Q:Pl->Prop) (w:World):Ah->Prop
 | ⟨_,_,ds,av,kv,kids⟩=>Ri av (Iu (vb av) ds.length)/\(∃a cap,kv=.slice a kids.length cap/\(0<kids.length->a=some ⟨vb kv,0,none⟩))/\
  (∀i (h:i<kids.length),vb kv<w.heap.size/\Q (vb kv,i*4+2)/\Q (vb kv,i*4+3)/\w.cell? ⟨vb kv,i*4+2,none⟩=some kids[i].av/\w.cell? ⟨vb kv,i*4+3,none⟩=some kids[i].kv)/\∀p∈kids.map (MSh Q w),p
theorem Vw (Q:Pl->Prop) (w:World) (m:Ah):MSh Q w m↔Ri m.av m.dps/\(∃a cap,m.kv=.slice a m.kids.length cap/\(0<m.kids.length->a=some ⟨vb m.kv,0,none⟩))/\
  (∀i (h:i<m.kids.length),vb m.kv<w.heap.size/\Q (vb m.kv,i*4+2)/\Q (vb m.kv,i*4+3)/\w.cell? ⟨vb m.kv,i*4+2,none⟩=some m.kids[i].av/\w.cell? ⟨vb m.kv,i*4+3,none⟩=some m.kids[i].kv)/\∀x∈m.kids,MSh Q w x:=by
 obtain⟨k,op,ds,av,kv,kids⟩:=m;rw[MSh,Stil.all_map];rfl
theorem MSh.map {Q:Pl->Prop} {w w':World} (hs:w.heap.size<=w'.heap.size) (hc:∀b o,b<w.heap.size->Q (b,o)->w'.cell? ⟨b,o,none⟩=w.cell? ⟨b,o,none⟩) (m:Ah):MSh Q w m->MSh Q w' m:=by
 refine Ir (λm=>MSh Q w m->MSh Q w' m) ?_ m;intro k op ds av kv kids ih h;rw[Vw] at h ⊢;obtain⟨h1,h2,h3,h4⟩:=h;refine⟨h1,h2,λi hi=>?_,λx hx=>ih x hx (h4 x hx)⟩;obtain⟨c1,c2,c3,c4,c5⟩:=h3 i hi;exact⟨A4c c1 hs,c2,c3,(hc _ _ c1 c2).trans c4,(hc _ _ c1 c3).trans c5⟩
theorem MSh.marked {Q:Pl->Prop} {w w':World} {m:Ah} {ps:List Pl} {k:Int} (h:MSh Q w m) (hm:Dh w w' ps k) (hq:∀p∈ps,¬Q p):MSh Q w' m:=MSh.map hm.1 (λb o hl hQ=>hm.2.1 (b,o) hl (λhp=>hq _ hp hQ)) m h
set_option maxHeartbeats 2000000 in
set_option maxRecDepth 100000 in
theorem Ao4 (Q:Pl->Prop) (m:Ah):∀(k:Int) (w:World),MSh Q w m->Gf w m.rps->m.rps.Nodup->(∀p∈m.rps,¬Q p)->0<=k->k+m.rps.length<=4611686018427387904->
  Calls Tryz.prog 26 #[m.kv, .int .i64 k] w λe w'=>e=.returned (.int .i64 (k+m.rps.length))/\Dh w w' m.rps k:=by
 refine Ir (λm=>∀(k:Int) (w:World),MSh Q w m->Gf w m.rps->m.rps.Nodup->(∀p∈m.rps,¬Q p)->0<=k->k+m.rps.length<=4611686018427387904->
  Calls Tryz.prog 26 #[m.kv, .int .i64 k] w λe w'=>e=.returned (.int .i64 (k+m.rps.length))/\Dh w w' m.rps k) ?_ m
 intro kk op ds av0 kv0 kids ih k w hsh hi hnd hq hk0 hkl;have IH:=hid ih;rw[Vw] at hsh;obtain⟨_,⟨a,cap,hkv,ha⟩,hcs,hks⟩:=hsh;simp only at hkv ha hcs hks;obtain⟨b,hb⟩:∃b,b=vb kv0:=⟨_,rfl⟩
 obtain⟨qs,hqs⟩:∃qs,qs=kids.map Ah.inner:=⟨_,rfl⟩
 have hrps:(Ah.mk kk op ds av0 kv0 kids).rps=Gi 4 b 0 qs:=by rw[hb,hqs];rfl
 rw[hrps] at hi hnd hq hkl ⊢;rw[<-hb] at ha hcs;simp only;subst hkv;clear hb hrps ih;obtain⟨n,hn⟩:∃n,n=kids.length:=⟨_,rfl⟩
 have HN:=hid hn;have HQL:Hid (qs.length=kids.length):=by show _=_;rw[hqs];simp
 have HQG:Hid (∀i (h:i<qs.length) (h':i<kids.length),qs[i]=kids[i].dps++kids[i].rps):=by
  intro i h h';subst hqs;rw[List.getElem_map,Ah.inner_eq]
 have HI:=hid hi;have HND:=hid hnd;have HKL:=hid hkl;have HQ:=hid hq;have HCS:=hid hcs;have HKS:=hid hks;have HA:Hid (0<n->a=some ⟨b,0,none⟩):=by rw[hn];exact ha
 have hnb:n<=4611686018427387904:=by
  have h3:=Ahp 4 b qs 0;have:=HQL.out
  omega
 rw[<-hn];clear hi hnd hkl ha hn hcs hks hq hqs;go_enter Tryz.func26,Tryz.ntmps26
 go_wp2
 go_loopw [1,5] (λkv iv wr=>∃(i:Nat) (L:Nat),i<=n/\L=(Gi 4 b 0 (qs.take i)).length/\kv=.int .i64 (k+L)/\iv=.int .i64 i/\Dh w wr (Gi 4 b 0 (qs.take i)) k) (λ_ iv _=>n - (intOf iv).toNat)
 case atStart=>exact⟨0,0,by omega,by simp[Gi],by simp,rfl,by simpa[Gi] using Dh.of_below (Below.refl _ _)⟩
 case round=>
  obtain⟨i,L,hi,hL,rfl,rfl,hm⟩:=hrel;have HM:=hid hm;have HL:=hid hL;clear hm hL;by_cases hlt:i<n
  ·have hlk:i<kids.length:=by have:=HN.out;omega
   have hlq:i<qs.length:=by have:=HQL.out;omega
   obtain rfl:=HA.out (by omega);obtain⟨hbz,hQ2,hQ3,hav,hkv⟩:=HCS.out i hlk;have hshx:=HKS.out _ (A4k hlk);have hspl:Gi 4 b 0 qs=Gi 4 b 0 (qs.take i)++(((b,0+i*4)::(b,0+i*4+1)::qs[i])++Gi 4 b (0+(i+1)*4) (qs.drop (i+1))):=by
    rw[P5 4 b qs 0 (i+1) (by omega),Rt 4 b qs 0 i hlq,A41]
   have HSN:=hid (Rt 4 b qs 0 i hlq);rw[HQG.out i hlq hlk] at hspl HSN;have IHX:=IH.out _ (A4k hlk);obtain⟨x,hx⟩:∃x,x=kids[i]:=⟨_,rfl⟩
   rw[<-hx] at hspl HSN hav hkv hshx IHX;have hI:=HI.out;have hN:=HND.out;have hK:=HKL.out;have hQp:=HQ.out;rw[hspl] at hI hN hK hQp;obtain⟨A,hA⟩:∃A,A=Gi 4 b 0 (qs.take i):=⟨_,rfl⟩
   obtain⟨Z,hZ⟩:∃Z,Z=Gi 4 b (0+(i+1)*4) (qs.drop (i+1)):=⟨_,rfl⟩
   rw[<-hA] at hI hN hK HM HL HSN hQp;rw[<-hZ] at hI hN hK hQp;rw[A4m] at hI hN hK hQp HSN;obtain⟨P,hP⟩:∃P:List Pl,P=[(b,i*4),(b,i*4+1)]:=⟨_,rfl⟩
   obtain⟨D,hD⟩:∃D,D=x.dps:=⟨_,rfl⟩
   obtain⟨R,hR⟩:∃R,R=x.rps:=⟨_,rfl⟩
   have hPq:((b,i*4)::(b,i*4+1)::(x.dps++x.rps))=P++(D++R):=by rw[hP,hD,hR];rfl
   rw[hPq] at hI hN hK HSN hQp;have hsD:Ri x.av D:=by rw[hD];exact((Vw Q w x).1 hshx).1
   have hsK:∃a cap,x.kv=.slice a x.kids.length cap:=by
    obtain⟨a1,c1,h1,_⟩:=((Vw Q w x).1 hshx).2.1;exact⟨a1,c1,h1⟩
   rw[<-hR] at IHX;clear hspl hA hZ hx hPq hD hR;have hNA:=List.nodup_append.1 hN;have hNP:=List.nodup_append.1 hNA.2.1;have hNQ:=List.nodup_append.1 hNP.1;have hNR:=List.nodup_append.1 hNQ.2.1;have HDA:Hid (∀p∈A,p∉P++(D++R)):=λp hp hpq=>hNA.2.2 p hp p (A4o _ hpq) rfl
   have HDP:Hid (∀p∈P,p∉D++R):=λp hp hpq=>hNQ.2.2 p hp p hpq rfl
   have HDR:Hid (∀p∈D,p∉R):=λp hp hpq=>hNR.2.2 p hp p hpq rfl
   have HND2:=hid hNR.1;have HNR2:=hid hNR.2.1;have hIw:=(hI.right.left).marked HM.out (λp hp hpa=>hNA.2.2 p hpa p (A4o _ hp) rfl);have hIP:=hIw.left;have HIP:=hid (λp hp=>(hIP p hp).1);have HID:=hid hIw.right.left;have HIR:=hid hIw.right.right;have HAL:=hid (λp hp=>(hI.left p hp).1);have hQA:=λp hp=>hQp p (A4o _ hp)
   have hQP:=λp hp=>hQp p (A4l _ (A4o _ (A4o _ hp)))
   have HQD:=hid (λp hp=>hQp p (A4l _ (A4o _ (A4l _ (A4o _ hp)))));have hQR:=λp hp=>hQp p (A4l _ (A4o _ (A4l _ (A4l _ hp))))
   have hc2:wr.cell? ⟨b,i*4+2,none⟩=some x.av:=(HM.out.2.1 (b,i*4+2) hbz (λh=>hQA _ h hQ2)).trans hav;have hc3:wr.cell? ⟨b,i*4+3,none⟩=some x.kv:=(HM.out.2.1 (b,i*4+3) hbz (λh=>hQA _ h hQ3)).trans hkv;have HSX:=hid (hshx.marked HM.out hQA);have hLn:=HL.out;have hPl:P.length=2:=by rw[hP];rfl
   simp only[A4d] at hK;have hq1:D.length<=4611686018427387904:=by omega
   have hk2:k+L+2<=4611686018427387904:=by omega
   have hk3:k+L+2+D.length+R.length<=4611686018427387904:=by omega
   have HC:=hid (λW hW=>V7 x.av D (k+L+2) W hsD hW HND2.out (by omega) hk2 hq1);have HC2:=hid (λW h1 h2=>IHX _ W h1 h2 HNR2.out hQR (by omega) hk3);obtain⟨⟨hb0,⟨n0,c0⟩,f0⟩,⟨_,⟨n1,c1⟩,f1⟩⟩:(b<wr.heap.size/\(∃n,wr.cell? ⟨b,i*4,none⟩=some (.int .i64 n))/\wr.frozen? ⟨b,i*4,none⟩=false)/\(b<wr.heap.size/\(∃n,wr.cell? ⟨b,i*4+1,none⟩=some (.int .i64 n))/\wr.frozen? ⟨b,i*4+1,none⟩=false):=
    ⟨hIP (b,i*4) (by rw[hP];simp),hIP (b,i*4+1) (by rw[hP];simp)⟩
   have HMP:Hid (Dh wr ((wr.setCell ⟨b,i*4,none⟩ (.int .i64 (k+L))).setCell ⟨b,i*4+1,none⟩ (.int .i64 (k+L+1))) P (k+L)):=by rw[hP];exact Dh.two (k+L) hb0 c0 c1
   have HPL:=hid hPl;have HQP:=hid hQP;have HQ3:=hid hQ3;obtain⟨xav,hxav⟩:∃v,v=x.av:=⟨_,rfl⟩
   obtain⟨xkv,hxkv⟩:∃v,v=x.kv:=⟨_,rfl⟩
   rw[<-hxav] at hc2 HC hsD;rw[<-hxkv] at hc3 HC2 hsK;obtain⟨a',n',cap',rfl,hz1,hz2⟩:=hsD;clear hz1 hz2;obtain⟨a'',cap'',rfl⟩:=hsK;clear hI hN hK hNA hNP hNQ hNR hIw hIP hav hkv hP hLn hQA hQP hQR hQp hshx IHX hQ2 hQ3 hxav hxkv;have w1:IntKind.i64.wrap (k+(L:Int)+1)=k+L+1:=by rw[IntKind.wrap_i64];omega
   have w2:IntKind.i64.wrap (k+(L:Int)+1+1)=k+L+2:=by rw[IntKind.wrap_i64];omega
   go_wp2_with (go_at_call 25;refine(HC.out _ (HID.out.marked HMP.out (λp hp hpp=>HDP.out p hpp (A4o _ hp)))).mono ?_;rintro e w3 ⟨rfl,hm3⟩;have hb3:=A4c (by simpa using hb0) hm3.1;have hd3:w3.cell? ⟨b,i*4+3,none⟩=some (.slice a'' x.kids.length cap''):=(hm3.2.1 (b,i*4+3) (by simpa using hb0) (λh=>HQD.out _ h HQ3.out)).trans ((Bf (by omega)).trans ((Bf (by omega)).trans hc3)))
   go_wp2_with (go_at_call 26;refine(HC2.out _ ((HSX.out.marked HMP.out HQP.out).marked hm3 HQD.out) (((HIR.out).marked HMP.out (λp hp hpp=>HDP.out p hpp (A4l _ hp))).marked hm3 (λp hp hpd=>HDR.out p hpd hp))).mono ?_;rintro e w4 ⟨rfl,hm4⟩)
   refine⟨⟨i+1,L+2+D.length+R.length,by omega,?_,?_,by go_num,?_⟩,by simp[intOf];omega⟩
   ·rw[HSN.out,A4d,A4d,A4d,HPL.out,<-HL.out];omega
   ·congr 1;omega
   ·rw[HSN.out]
    refine Dh.append HM.out ?_ HAL.out HDA.out;rw[<-HL.out];refine Dh.append HMP.out ?_ HIP.out HDP.out;rw[HPL.out];refine Dh.append hm3 hm4 (λp hp=>A4c (HID.out p hp).1 HMP.out.1) HDR.out
  ·obtain rfl:i=n:=by omega
   go_wp2
   go_ret;have hT:qs.take i=qs:=A48 (by have:=HN.out;have:=HQL.out;omega);refine⟨D7 (by rw[HL.out,hT]),?_⟩;have:=HM.out
   rwa [hT] at this
theorem Lh {w:World} {base:Nat} {u:Value} {ds:List Stil.Dev} (h:w.ownsRow base 86 3 u ds.length (Bz ds)):
  Ri u (Iu (vb u) ds.length)/\Gf w (Iu (vb u) ds.length)/\∀p∈Iu (vb u) ds.length,base<=p.1/\u.ownBlock=some p.1:=by
 by_cases hd:ds.length=0
 ·have hn:=List.length_eq_zero_iff.1 hd
  subst hn;obtain⟨a,cap,rfl⟩:=Af h;exact⟨⟨a,0,cap,rfl,rfl,λj hj=>absurd hj (by simp[Iu])⟩,(λp hp=>by simp[Iu] at hp),(λp hp=>by simp[Iu] at hp)⟩
 ·obtain⟨g,cap,hv,hbase,hlt,_,hc⟩:=Aw h (by omega)
  subst hv;have hvb:vb (.slice (some ⟨g,0,none⟩) ds.length cap)=g:=rfl;rw[hvb];refine⟨⟨_,_,_,rfl,Qh _ _,λj hj=>⟨g,0,rfl,by simp[Iu]⟩⟩,λp hp=>?_,λp hp=>?_⟩
  ·obtain⟨h1,h2⟩:=Uk hp
   obtain⟨b,j⟩:=p;simp only at h1 h2;subst h1;refine⟨hlt,?_,h.frozenAt _⟩;have hi:j / 3<ds.length:=by omega
   obtain⟨a1,a2,a3⟩:=Ls ds (j / 3) hi;have hx:j=j / 3*3\/j=j / 3*3+1\/j=j / 3*3+2:=by omega
   rcases hx with e | e | e
   ·exact⟨_,by rw[ad,e];exact hc _ _ a1⟩
   ·exact⟨_,by rw[ad,e];exact hc _ _ a2⟩
   ·exact⟨_,by rw[ad,e];exact hc _ _ a3⟩
  ·obtain⟨h1,_⟩:=Uk hp
   rw[h1];exact⟨hbase,rfl⟩
def Ah.rows:Ah->List Value
 | ⟨_,_,_,_,kv,kids⟩=>kv::(kids.map Ah.rows).flatten
theorem Ah.rows_eq (m:Ah):m.rows=m.kv::(m.kids.map Ah.rows).flatten:=by obtain⟨k,op,ds,av,kv,kids⟩:=m;rw[Ah.rows]
theorem Ah.mem_rows {m x:Ah} (hx:x∈m.kids) {v:Value} (hv:v∈x.rows):v∈m.rows:=by
 rw[Ah.rows_eq];exact A4h _ (List.mem_flatten.2 ⟨_,List.mem_map.2 ⟨x,hx,rfl⟩,hv⟩)
def heads (rows:List Value) (p:Pl):Prop:=2<=p.2 % 4/\∃v∈rows,v.ownBlock=some p.1
theorem MSh.mono {Q Q':Pl->Prop} {w:World} (hq:∀p,Q p->Q' p) (m:Ah):MSh Q w m->MSh Q' w m:=by
 refine Ir (λm=>MSh Q w m->MSh Q' w m) ?_ m;intro k op ds av kv kids ih h;rw[Vw] at h ⊢;obtain⟨h1,h2,h3,h4⟩:=h;refine⟨h1,h2,λi hi=>?_,λx hx=>ih x hx (h4 x hx)⟩;obtain⟨c1,c2,c3,c4,c5⟩:=h3 i hi;exact⟨c1,hq _ c2,hq _ c3,c4,c5⟩
theorem Ah.places {w:World} {base:Nat} (m:Ah):Ib w base m->MSh (heads m.rows) w m/\Gf w m.inner/\m.inner.Nodup/\(∀p∈m.inner,base<=p.1/\∃x∈m.vals,x.ownBlock=some p.1)/\∀p∈m.inner,¬heads m.rows p:=by
 refine Ir (λm=>Ib w base m->MSh (heads m.rows) w m/\Gf w m.inner/\m.inner.Nodup/\(∀p∈m.inner,base<=p.1/\∃x∈m.vals,x.ownBlock=some p.1)/\∀p∈m.inner,¬heads m.rows p) ?_ m;intro k op ds av kv kids ih h;obtain⟨hok,hpw⟩:=h;have hok2:=(Hq _ _ _).1 hok;obtain⟨hA,hK,hkids⟩:=hok2;simp only at hA hK hkids;rw[Ah.vals_eq,A4z,A4z] at hpw;simp only at hpw;obtain⟨hpa,hpk,hps⟩:=hpw;have hps2:=hps;unfold Eh at hps2;rw[List.pairwise_flatten] at hps2;have hkown:∀x∈kids,Ib w base x:=λx hx=>⟨hkids x hx,hps2.1 _ (List.mem_map.2 ⟨x,hx,rfl⟩)⟩
 have hvm:∀x∈kids,∀v∈x.vals,v∈Eh kids:=λx hx v hv=>Iw.2 ⟨x,hx,hv⟩
 have hrv:∀(y:Ah),∀v∈y.rows,v∈y.vals:=by
  intro y;refine Ir (λy=>∀v∈y.rows,v∈y.vals) ?_ y;intro k' op' ds' av' kv' kids' ih' v hv;rw[Ah.rows_eq] at hv;rw[Ah.vals_eq];rcases List.mem_cons.1 hv with hv | hv
  ·simp[hv]
  ·obtain⟨l,hl,hv⟩:=List.mem_flatten.1 hv
   obtain⟨x,hx,rfl⟩:=List.mem_map.1 hl;exact A4h _ (A4h _ (Iw.2 ⟨x,hx,ih' x hx v hv⟩))
 obtain⟨d1,d2,d3⟩:=Lh hA;obtain⟨b,hb⟩:∃b,b=vb kv:=⟨_,rfl⟩
 obtain⟨qs,hqs⟩:∃qs,qs=kids.map Ah.inner:=⟨_,rfl⟩
 have hin:(Ah.mk k op ds av kv kids).inner=Iu (vb av) ds.length++Gi 4 b 0 qs:=by rw[Ah.inner,hb,hqs]
 have hkvb:0<kids.length->kv.ownBlock=some b:=by
  intro hz;obtain⟨g,cap,hv,_⟩:=Aw hK hz;rw[hb,hv];rfl
 have hqm:∀q∈qs,∃x∈kids,q=x.inner:=by
  intro q hq;rw[hqs] at hq;obtain⟨x,hx,rfl⟩:=List.mem_map.1 hq;exact⟨x,hx,rfl⟩
 have hrow:∀p∈Gi 4 b 0 qs,(p.1=b/\kv.ownBlock=some b/\p.2 % 4<2/\p.2<kids.length*4)\/∃x∈kids,p∈x.inner:=by
  intro p hp;rcases Oa 4 b qs 0 p hp with⟨i,hi,hp⟩ | ⟨q,hq,hp⟩
  ·have hi':i<kids.length:=by rw[hqs] at hi;simpa using hi
   refine .inl ?_;rcases hp with rfl | rfl
   ·exact⟨rfl,hkvb (by omega),by simp only;omega,by simp only;omega⟩
   ·exact⟨rfl,hkvb (by omega),by simp only;omega,by simp only;omega⟩
  ·obtain⟨x,hx,rfl⟩:=hqm q hq
   exact .inr ⟨x,hx,hp⟩
 have hblk:∀p∈(Ah.mk k op ds av kv kids).inner,base<=p.1/\∃x∈av::kv::Eh kids,x.ownBlock=some p.1:=by
  intro p hp;rw[hin] at hp;rcases List.mem_append.1 hp with hp | hp
  ·exact⟨(d3 p hp).1,av,by simp,(d3 p hp).2⟩
  ·rcases hrow p hp with⟨h1,h2,_⟩ | ⟨x,hx,hp⟩
   ·rw[h1]
    exact⟨(hK.lt b h2).1,kv,by simp,h2⟩
   ·obtain⟨h1,v,hv,h2⟩:=(ih x hx (hkown x hx)).2.2.2.1 p hp
    exact⟨h1,v,A4h _ (A4h _ (hvm x hx v hv)),h2⟩
 have hnoh:∀p∈(Ah.mk k op ds av kv kids).inner,¬heads (Ah.mk k op ds av kv kids).rows p:=by
  intro p hp hh;obtain⟨h4,v,hv,hvb⟩:=hh;rw[Ah.rows_eq] at hv;simp only at hv;rw[hin] at hp;have hv2:v=kv\/∃x∈kids,v∈x.rows:=by
   rcases List.mem_cons.1 hv with hv | hv
   ·exact .inl hv
   ·obtain⟨l,hl,hv⟩:=List.mem_flatten.1 hv
    obtain⟨x,hx,rfl⟩:=List.mem_map.1 hl;exact .inr ⟨x,hx,hv⟩
  have hv3:v=kv\/v∈Eh kids:=by
   rcases hv2 with h | ⟨x,hx,h⟩
   ·exact .inl h
   ·exact .inr (hvm x hx v (hrv x v h))
  rcases List.mem_append.1 hp with hp | hp
  ·have h2:=(d3 p hp).2
   refine(hpa v ?_).no h2 hvb;rcases hv3 with h | h
   ·simp[h]
   ·exact A4h _ h
  ·rcases hrow p hp with⟨h1,h2,h3,_⟩ | ⟨x,hx,hp⟩
   ·omega
   ·obtain⟨_,u,hu,h2⟩:=(ih x hx (hkown x hx)).2.2.2.1 p hp
    rcases hv2 with h | ⟨y,hy,h⟩
    ·rw[h] at hvb
     exact(hpk u (hvm x hx u hu)).no hvb h2
    ·obtain⟨i,hi,rfl⟩:=List.getElem_of_mem hx
     obtain⟨j,hj,rfl⟩:=List.getElem_of_mem hy;by_cases e:i=j
     ·subst e
      exact(ih _ hx (hkown _ hx)).2.2.2.2 p hp ⟨h4,v,h,hvb⟩
     ·have hpp:=hps2.2
      rw[List.pairwise_map] at hpp;have hpp2:=List.pairwise_iff_getElem.1 hpp;rcases Nat.lt_or_gt_of_ne e with e | e
      ·exact(hpp2 i j hi hj e u hu v (hrv _ v h)).no h2 hvb
      ·exact(hpp2 j i hj hi e v (hrv _ v h) u hu).no hvb h2
 refine⟨?_,?_,?_,?_,hnoh⟩
 ·rw[Vw]
  refine⟨d1,?_,λi hi=>?_,λx hx=>MSh.mono (λp hp=>⟨hp.1,hp.2.choose,Ah.mem_rows (m:=⟨k,op,ds,av,kv,kids⟩) hx hp.2.choose_spec.1,hp.2.choose_spec.2⟩) x (ih x hx (hkown x hx)).1⟩
  ·simp only
   by_cases hz:kids.length=0
   ·obtain⟨a,cap,rfl⟩:=Af hK
    exact⟨a,cap,rfl,λh=>absurd h (by omega)⟩
   ·obtain⟨g,cap,hv,_⟩:=Aw hK (by omega)
    refine⟨some ⟨g,0,none⟩,cap,hv,λ_=>?_⟩;rw[hv];rfl
  ·simp only at hi ⊢
   obtain⟨g,cap,hv,_,hlt,_,hcell⟩:=Aw hK (by omega);have e:vb kv=g:=by rw[hv];rfl
   rw[e];obtain⟨_,_,a3,a4⟩:=I9 kids i hi;have hg:kv.ownBlock=some g:=by rw[hv];rfl
   exact⟨hlt,⟨by simp only;omega,kv,by rw[Ah.rows_eq];simp,hg⟩,⟨by simp only;omega,kv,by rw[Ah.rows_eq];simp,hg⟩,hcell _ _ a3,hcell _ _ a4⟩
 ·rw[hin]
  intro p hp;rcases List.mem_append.1 hp with hp | hp
  ·exact d2 p hp
  ·rcases Oa 4 b qs 0 p hp with⟨i,hi,hp⟩ | ⟨q,hq,hp⟩
   ·have hi':i<kids.length:=by rw[hqs] at hi;simpa using hi
    obtain⟨g,cap,hv,_,hlt,_,hcell⟩:=Aw hK (by omega);have e:b=g:=by rw[hb,hv];rfl
    subst e;subst hv;obtain⟨a1,a2,_,_⟩:=I9 kids i hi';rcases hp with rfl | rfl
    ·exact⟨hlt,⟨_,by rw[ad];simp only[A4m];exact hcell _ _ a1⟩,hK.frozenAt _⟩
    ·exact⟨hlt,⟨_,by rw[ad];simp only[A4m];exact hcell _ _ a2⟩,hK.frozenAt _⟩
   ·obtain⟨x,hx,rfl⟩:=hqm q hq
    exact(ih x hx (hkown x hx)).2.1 p hp
 ·rw[hin,A5e]
  refine⟨Uj _ _,Xy 4 b (by omega) qs 0 (λq hq=>?_) ?_,λp hp r hr e=>?_⟩
  ·obtain⟨x,hx,rfl⟩:=hqm q hq
   refine⟨(ih x hx (hkown x hx)).2.2.1,λp hp e=>?_⟩;obtain⟨_,u,hu,h2⟩:=(ih x hx (hkown x hx)).2.2.2.1 p hp;rw[e] at h2;exact(hpk u (hvm x hx u hu)).no (hkvb (List.length_pos_of_mem hx)) h2
  ·rw[hqs,List.pairwise_map]
   refine List.pairwise_iff_getElem.2 (λi j hi hj hij p hp hp2=>?_);have hx:=A4k hi;have hy:=A4k hj;obtain⟨_,u,hu,h1⟩:=(ih _ hx (hkown _ hx)).2.2.2.1 p hp;obtain⟨_,v,hv,h2⟩:=(ih _ hy (hkown _ hy)).2.2.2.1 p hp2;have hpp:=hps2.2;rw[List.pairwise_map] at hpp;exact((List.pairwise_iff_getElem.1 hpp) i j hi hj hij u hu v hv).no h1 h2
  ·subst e
   have h2:=(d3 p hp).2;rcases hrow p hr with⟨h1,h3,_⟩ | ⟨x,hx,hr⟩
   ·rw[h1] at h2
    exact(hpa kv (by simp)).no h2 h3
   ·obtain⟨_,u,hu,h3⟩:=(ih x hx (hkown x hx)).2.2.2.1 p hr
    exact(hpa u (A4h _ (hvm x hx u hu))).no h2 h3
 ·intro p hp
  rw[Ah.vals_eq];exact hblk p hp
theorem Ah.count (m:Ah):Cc m.net->m.inner.length+2<=Aj m.net*3145730:=by
 refine Ir (λm=>Cc m.net->m.inner.length+2<=Aj m.net*3145730) ?_ m;intro k op ds av kv kids ih hf;have e:=Ah.net_eq ⟨k,op,ds,av,kv,kids⟩;simp only at e;rw[e] at hf ⊢;obtain⟨_,he,_,hk⟩:=(Fa _ _ _).1 hf;rw[Ah.inner_eq,La,A4d];have h1:(Ah.mk k op ds av kv kids).dps.length=3*ds.length:=by rw[Ah.dps,Qh]
 have h2:ds.length<=1048576:=he.2.1;have h3:∀(l:List Ah) (b o:Nat),(∀x∈l,x.inner.length+2<=Aj x.net*3145730)->(Gi 4 b o (l.map Ah.inner)).length<=((l.map Ah.net).map Aj).sum*3145730:=by
  intro l;induction l with
  | nil=>intro b o _;simp[Gi]
  | cons x r ih2=>
   intro b o h;have a1:=h x (by simp);have a2:=ih2 b (o+4) (λy hy=>h y (A4h _ hy));simp only[A4v,Gi,A4e,A4d,List.sum_cons,Nat.add_mul] at a2 ⊢;omega
 have h4:=h3 kids (vb kv) 0 (λx hx=>ih x hx (hk _ (List.mem_map.2 ⟨x,hx,rfl⟩)));have h5:(Ah.mk k op ds av kv kids).rps.length=(Gi 4 (vb kv) 0 (kids.map Ah.inner)).length:=rfl;rw[h1,h5,Nat.add_mul];omega
end Go.Proofs.YtbfljjcnbbmoaaaGreatDoor
