import Derived.Test.YtbfljjcnbbmoaaaGreatDoorGp
import Derived.Test.YtbfljjcnbbmoaaaGreatDoorGf
namespace Go.Proofs.YtbfljjcnbbmoaaaGreatDoor
open Stil
open Go.RowKit Go.Sort Go.BigFrame
variable {base base':Nat}{u v x:Value}{w':World}
def Aside (u v:Value):Prop:=u.ownBlock=none\/u.ownBlock≠v.ownBlock
theorem Aside.symm (h:Aside u v):Aside v u:=by
 rcases h with h | h
 ·by_cases e:v.ownBlock=none
  ·exact .inl e
  ·exact .inr (by rw[h];exact e)
 ·exact .inr (λe=>h e.symm)
theorem Aside.no {k:Nat}(h:Aside u v)(hu:u.ownBlock=some k)(hv:v.ownBlock=some k):False:=by
 rcases h with h | h
 ·rw[hu] at h;cases h
 ·exact h (by rw[hu,hv])
theorem Ef {y:Value}{n:Nat}(hx:∀k,x.ownBlock=some k->k<n)(hy:∀k,y.ownBlock=some k->n<=k):Aside x y:=by
 by_cases e:x.ownBlock=none
 ·exact .inl e
 ·obtain⟨k,hk⟩:=Option.ne_none_iff_exists'.1 e
  refine .inr (λe2=>?_);rw[hk] at e2;have h1:=hx k hk;have h2:=hy k e2.symm;omega
structure Ah where
 kind:Int
 op:Int
 ds:List Stil.Dev
 av:Value
 kv:Value
 kids:List Ah
theorem Ja (P:Ah->Prop)(h:∀k op ds av kv kids,(∀x∈kids,P x)->P ⟨k,op,ds,av,kv,kids⟩):∀n,P n
 | ⟨k,op,ds,av,kv,kids⟩=>h k op ds av kv kids (λx _=>Ja P h x)
def Ah.net:Ah->Stil.Net
 | ⟨k,op,ds,_,_,kids⟩=>⟨k,⟨op,ds⟩,kids.map Ah.net⟩
theorem Ah.net_eq (m:Ah):m.net=⟨m.kind,⟨m.op,m.ds⟩,m.kids.map Ah.net⟩:=by obtain⟨k,op,ds,av,kv,kids⟩:=m;rw[Ah.net]
def Ah.vals:Ah->List Value
 | ⟨_,_,_,av,kv,kids⟩=>av::kv::(kids.map Ah.vals).flatten
def Ew (ms:List Ah):List Value:=(ms.map Ah.vals).flatten
theorem Ah.vals_eq (m:Ah):m.vals=m.av::m.kv::Ew m.kids:=by obtain⟨k,op,ds,av,kv,kids⟩:=m;rw[Ah.vals];rfl
theorem L6 (a b:List Ah):Ew (a++b)=Ew a++Ew b:=by simp[Ew]
theorem Je (m:Ah):Ew [m]=m.vals:=by simp[Ew]
theorem Jc {ms:List Ah}:x∈Ew ms↔∃m∈ms,x∈m.vals:=by
 simp only[Ew,List.mem_flatten,A4s];constructor
 ·rintro⟨_,⟨m,hm,rfl⟩,hx⟩;exact⟨m,hm,hx⟩
 ·rintro⟨m,hm,hx⟩;exact⟨_,⟨m,hm,rfl⟩,hx⟩
def Ah.cells (m:Ah):List Value:=[.int .i64 m.kind, .int .i64 m.op,m.av,m.kv]
def Gm (ms:List Ah):List Value:=ms.flatMap Ah.cells
theorem Zn (a b:List Ah):Gm (a++b)=Gm a++Gm b:=by simp[Gm]
theorem Ap8 (m:Ah):Gm [m]=m.cells:=by simp[Gm]
theorem Xk (ms:List Ah):(Gm ms).length=ms.length*4:=by
 induction ms with
 | nil=>rfl
 | cons m r ih=>
  have e:Gm (m::r)=m.cells++Gm r:=rfl;rw[e,A38,ih];simp[Ah.cells];omega
theorem Jj:∀(ms:List Ah) (i:Nat) (h:i<ms.length),(Gm ms)[i*4]?=some (.int .i64 ms[i].kind)/\(Gm ms)[i*4+1]?=some (.int .i64 ms[i].op)/\(Gm ms)[i*4+2]?=some ms[i].av/\(Gm ms)[i*4+3]?=some ms[i].kv
 | [],_,h=>by simp at h
 | m::r,0,_=>⟨rfl,rfl,rfl,rfl⟩
 | m::r,i+1,h=>by
  obtain⟨a1,a2,a3,a4⟩:=Jj r i (by simpa using h);have e:Gm (m::r)=.int .i64 m.kind::.int .i64 m.op::m.av::m.kv::Gm r:=rfl;have e1:(i+1)*4=i*4+1+1+1+1:=omz
  rw[e,e1];exact⟨by simpa using a1,by simpa using a2,by simpa using a3,by simpa using a4⟩
def MOk (w:World)(base:Nat):Ah->Prop
 | ⟨_,_,ds,av,kv,kids⟩=>w.ownsRow base 86 3 av ds.length (Cb ds)/\w.ownsRow base 52 4 kv kids.length (Gm kids)/\∀p∈kids.map (MOk w base),p
theorem H5 (w:World)(base:Nat)(m:Ah):MOk w base m↔w.ownsRow base 86 3 m.av m.ds.length (Cb m.ds)/\w.ownsRow base 52 4 m.kv m.kids.length (Gm m.kids)/\∀x∈m.kids,MOk w base x:=by
 obtain⟨k,op,ds,av,kv,kids⟩:=m;rw[MOk,Stil.all_map]
theorem MOk.map {w:World}(m:Ah)(h:MOk w base m)(hk:∀(e:TypeId) (s n:Nat) (v:Value) (xs:List Value),v∈m.vals->w.ownsRow base e s v n xs->w'.ownsRow base' e s v n xs):MOk w' base' m:=by
 revert h hk
 refine Ja (λm=>MOk w base m->(∀(e:TypeId) (s n:Nat) (v:Value) (xs:List Value),v∈m.vals->w.ownsRow base e s v n xs->w'.ownsRow base' e s v n xs)->MOk w' base' m) ?_ m;intro k op ds av kv kids ih h hk;rw[H5] at h ⊢;simp only[Ah.vals_eq] at hk;refine⟨hk _ _ _ _ _ spz h.1,hk _ _ _ _ _ spz h.2.1,λx hx=>ih x hx (h.2.2 x hx) (λe s n v xs hv=>hk e s n v xs ?_)⟩;exact A4c _ (A4c _ (Jc.2 ⟨x,hx,hv⟩))
theorem MOk.below {w:World}{m:Ah}(h:MOk w base m)(hb:Below w.heap.size w w'):MOk w' base m:=MOk.map m h (λ_ _ _ _ _ _ ho=>ownsRow_below ho hb)
theorem MOk.kept {w:World}{m:Ah}(h:MOk w base m)(hg:w.grownBy w' x.ownBlock)(ha:∀u∈m.vals,Aside u x):MOk w' base m:=MOk.map m h (λ_ _ _ _ _ hv ho=>ho.kept hg (ha _ hv))
theorem MOk.le {w:World}{m:Ah}(h:MOk w base m)(hl:base'<=base):MOk w base' m:=MOk.map m h (λ_ _ _ _ _ _ ho=>Joins.ownsRow_le ho hl)
theorem MOk.lt {w:World}(m:Ah)(h:MOk w base m):∀x∈m.vals,∀k,x.ownBlock=some k->base<=k/\k<w.heap.size:=by
 revert h
 refine Ja (λm=>MOk w base m->∀x∈m.vals,∀k,x.ownBlock=some k->base<=k/\k<w.heap.size) ?_ m;intro k op ds av kv kids ih h x hx j hj;rw[H5] at h;rw[Ah.vals_eq] at hx;simp only[A4t] at hx;rcases hx with rfl | rfl | hx
 ·exact h.1.lt j hj
 ·exact h.2.1.lt j hj
 ·obtain⟨y,hy,hx⟩:=Jc.1 hx
  exact ih y hy (h.2.2 y hy) x hx j hj
def Ik (w:World)(base:Nat)(m:Ah):Prop:=MOk w base m/\m.vals.Pairwise Aside
theorem Ik.below {w:World}{m:Ah}(h:Ik w base m)(hb:Below w.heap.size w w'):Ik w' base m:=⟨h.1.below hb,h.2⟩
theorem Ik.le {w:World}{m:Ah}(h:Ik w base m)(hl:base'<=base):Ik w base' m:=⟨h.1.le hl,h.2⟩
def J4 (w:World)(base:Nat)(v:Value)(ms:List Ah):Prop:=w.ownsRow base 52 4 v ms.length (Gm ms)/\(∀m∈ms,MOk w base m)/\(v::Ew ms).Pairwise Aside
theorem J4.nil (w:World)(base:Nat):J4 w base (.slice none 0 0) []:=⟨World.ownsRow_nil _ _ _ _,(λm hm=>by cases hm),List.pairwise_singleton _ _⟩
theorem J4.below {w:World}{ms:List Ah}(h:J4 w base v ms)(hb:Below w.heap.size w w'):J4 w' base v ms:=⟨ownsRow_below h.1 hb,λm hm=>(h.2.1 m hm).below hb,h.2.2⟩
theorem J4.le {w:World}{ms:List Ah}(h:J4 w base v ms)(hl:base'<=base):J4 w base' v ms:=⟨Joins.ownsRow_le h.1 hl,λm hm=>(h.2.1 m hm).le hl,h.2.2⟩
theorem J4.lt {w:World}{ms:List Ah}(h:J4 w base v ms):∀x∈v::Ew ms,∀k,x.ownBlock=some k->base<=k/\k<w.heap.size:=by
 intro x hx k hk;rcases List.mem_cons.1 hx with rfl | hx
 ·exact h.1.lt k hk
 ·obtain⟨m,hm,hx⟩:=Jc.1 hx
  exact(h.2.1 m hm).lt m x hx k hk
theorem J4.add {w:World}{v':Value}{ms ks:List Ah}(h:J4 w base v ms)(hk:∀m∈ks,MOk w base m)(hp:(v::(Ew ms++Ew ks)).Pairwise Aside)
  (hown:w'.ownsRow base 52 4 v' (ms.length+ks.length) (Gm ms++Gm ks)) (hg:w.grownBy w' v.ownBlock) (hat:v'.ownBlock=v.ownBlock\/v'.ownBlock=some w.heap.size):J4 w' base v' (ms++ks):=by
 rw[A4u] at hp;have hkl:∀x∈Ew ms++Ew ks,∀k,x.ownBlock=some k->k<w.heap.size:=by
  intro x hx k hk2;rcases List.mem_append.1 hx with hx | hx
  ·exact(h.lt x (A4c _ hx) k hk2).2
  ·obtain⟨m,hm,hx⟩:=Jc.1 hx
   exact((hk m hm).lt m x hx k hk2).2
 refine⟨by rw[A38,Zn];exact hown,λm hm=>?_,?_⟩
 ·rcases List.mem_append.1 hm with hm | hm
  ·exact(h.2.1 m hm).kept hg (λu hu=>(hp.1 u (A4j _ (Jc.2 ⟨m,hm,hu⟩))).symm)
  ·exact(hk m hm).kept hg (λu hu=>(hp.1 u (A4g _ (Jc.2 ⟨m,hm,hu⟩))).symm)
 ·rw[L6,A4u]
  refine⟨λy hy=>?_,hp.2⟩;rcases hat with e | e
  ·rcases hp.1 y hy with h0 | h0
   ·exact .inl (by rw[e];exact h0)
   ·exact .inr (by rw[e];exact h0)
  ·refine .inr (λe2=>?_)
   rw[e] at e2;have:=hkl y hy _ e2.symm
   omega
theorem J4.apart {w w1:World}{ms ks:List Ah}{b1:Nat}(h:J4 w base v ms)(hk:∀m∈ks,MOk w1 b1 m)(hb:w.heap.size<=b1)(hp:(Ew ks).Pairwise Aside):(v::(Ew ms++Ew ks)).Pairwise Aside:=by
 have hx:=h.lt;have hy:∀y∈Ew ks,∀k,y.ownBlock=some k->w.heap.size<=k:=by
  intro y hy k hk2;obtain⟨m,hm,hy⟩:=Jc.1 hy;exact A4k hb ((hk m hm).lt m y hy k hk2).1
 have h2:=h.2.2;rw[A4u] at h2 ⊢;refine⟨λy hy2=>?_,List.pairwise_append.2 ⟨h2.2,hp,λx hx2 y hy2=>Ef (λk hk2=>(hx x (A4c _ hx2) k hk2).2) (hy y hy2)⟩⟩;rcases List.mem_append.1 hy2 with hy2 | hy2
 ·exact h2.1 y hy2
 ·exact Ef (λk hk2=>(hx v spz k hk2).2) (hy y hy2)
theorem Ik.kids {w:World}{m:Ah}(h:Ik w base m):(∀x∈m.kids,MOk w base x)/\(Ew m.kids).Pairwise Aside:=by
 refine⟨((H5 w base m).1 h.1).2.2,?_⟩;have h2:=h.2;rw[Ah.vals_eq,A4u,A4u] at h2;exact h2.2.2
theorem J4.one {w:World}{ms:List Ah}(h:J4 w base v ms)(i:Nat)(hi:i<ms.length):Ik w base ms[i]:=by
 refine⟨h.2.1 _ (A4f hi),?_⟩;have h2:=(List.pairwise_cons.1 h.2.2).2;unfold Ew at h2;rw[List.pairwise_flatten] at h2;exact h2.1 _ (List.mem_map.2 ⟨_,A4f hi,rfl⟩)
theorem J4.net {w:World}{av:Value}{ms:List Ah}(k op:Int)(ds:List Stil.Dev)(h:J4 w base v ms)(ha:w.ownsRow base 86 3 av ds.length (Cb ds))(hd:∀x∈v::Ew ms,Aside av x):Ik w base ⟨k,op,ds,av,v,ms⟩:=by
 refine⟨(H5 _ _ _).2 ⟨ha,h.1,h.2.1⟩,?_⟩;rw[Ah.vals_eq,A4u];exact⟨hd,h.2.2⟩
theorem Nl (x:Value):Aside (.slice none 0 0) x:=.inl rfl
theorem MOk.from {w:World}(m:Ah)(h:MOk w base m):Hl base w m.av m.net.one.args/\Sr base w m.kv m.net.kids:=by
 revert h
 refine Ja (λm=>MOk w base m->Hl base w m.av m.net.one.args/\Sr base w m.kv m.net.kids) ?_ m;intro k op ds av kv kids ih h;rw[H5] at h;rw[Ah.net_eq];refine⟨Hl.of_owns h.1,?_⟩;simp only at h ⊢;by_cases hz:kids.length=0
 ·obtain⟨a,cap,rfl⟩:=Af h.2.1
  exact⟨a,cap,spz,λi hi=>absurd hi (by simp;omega)⟩
 ·obtain⟨g,cap,hv,hbase,hlt,_,hcell⟩:=Az h.2.1 omz
  subst hv;refine⟨_,cap,spz,λi hi=>⟨g,0,rfl,hbase,hlt,?_⟩⟩;have hi':i<kids.length:=by simpa using hi
  obtain⟨a1,a2,a3,a4⟩:=Jj kids i hi';obtain⟨f1,f2⟩:=ih _ (A4f hi') (h.2.2 _ (A4f hi'));rw[List.getElem_map,Aej,A4h];have e:=Ah.net_eq kids[i];have e1:kids[i].net.kind=kids[i].kind:=by rw[e]
  have e2:kids[i].net.one.op=kids[i].op:=by rw[e]
  rw[e1,e2];exact⟨hcell _ _ a1,hcell _ _ a2,⟨_,hcell _ _ a3,f1⟩,⟨_,hcell _ _ a4,f2⟩⟩
def vb (v:Value):Nat:=v.ownBlock.getD 0
def Gp (s b:Nat):Nat->List (List Pl)->List Pl
 | _,[]=>[]
 | o,q::r=>(b,o)::(b,o+1)::(q++Gp s b (o+s) r)
theorem Tm (s b:Nat):∀(qs:List (List Pl)) (o i:Nat) (h:i<qs.length),Gp s b o (qs.take (i+1))=Gp s b o (qs.take i)++((b,o+i*s)::(b,o+i*s+1)::qs[i])
 | [],_,_,h=>by simp at h
 | q::r,o,0,_=>by simp[Gp]
 | q::r,o,i+1,h=>by
  have ih:=Tm s b r (o+s) i (by simpa using h);rw[List.take_succ_cons,List.take_succ_cons,Gp,Gp,ih];have e:o+s+i*s=o+(i+1)*s:=by rw[Nat.succ_mul];omega
  simp[e]
theorem Ql (s b:Nat):∀(qs:List (List Pl)) (o i:Nat),i<=qs.length->Gp s b o qs=Gp s b o (qs.take i)++Gp s b (o+i*s) (qs.drop i)
 | qs,o,0,_=>by simp[Gp]
 | [],_,i+1,h=>by simp at h
 | q::r,o,i+1,h=>by
  have ih:=Ql s b r (o+s) i (by simpa using h);rw[List.take_succ_cons,List.drop_succ_cons,Gp,Gp,ih];have e:o+s+i*s=o+(i+1)*s:=by rw[Nat.succ_mul];omega
  simp[e]
theorem Aih (s b:Nat):∀(qs:List (List Pl)) (o:Nat),qs.length<=(Gp s b o qs).length:=by
 intro qs;induction qs with
 | nil=>intro o;simp
 | cons q r ih=>intro o;have:=ih (o+s);simp[Gp];omega
theorem Ov (s b:Nat):∀(qs:List (List Pl)) (o:Nat) (p:Pl),p∈Gp s b o qs->(∃i,i<qs.length/\(p=(b,o+i*s)\/p=(b,o+i*s+1)))\/∃q∈qs,p∈q
 | [],_,p,h=>by simp[Gp] at h
 | q::r,o,p,h=>by
  rw[Gp] at h;simp only[A4t,A4l] at h;rcases h with h | h | h | h
  ·exact .inl ⟨0,spz, .inl (by simpa using h)⟩
  ·exact .inl ⟨0,spz, .inr (by simpa using h)⟩
  ·exact .inr ⟨q,spz,h⟩
  ·rcases Ov s b r (o+s) p h with⟨i,hi,hp⟩ | ⟨q',hq',hp⟩
   ·refine .inl ⟨i+1,by simp;omega,?_⟩
    have e:o+s+i*s=o+(i+1)*s:=by rw[Nat.succ_mul];omega
    rwa [e] at hp
   ·exact .inr ⟨q',A4c _ hq',hp⟩
theorem Yi (s b:Nat)(hs:2<=s):∀(qs:List (List Pl)) (o:Nat),(∀q∈qs,q.Nodup/\∀p∈q,p.1≠b)->qs.Pairwise (λq r=>∀p∈q,p∉r)->(Gp s b o qs).Nodup
 | [],_,_,_=>List.nodup_nil
 | q::r,o,h1,h2=>by
  have ih:=Yi s b hs r (o+s) (λx hx=>h1 x (A4c _ hx)) (List.pairwise_cons.1 h2).2;obtain⟨hq1,hq2⟩:=h1 q spz;have hr:∀p∈Gp s b (o+s) r,p≠(b,o)/\p≠(b,o+1)/\p∉q:=by
   intro p hp;rcases Ov s b r (o+s) p hp with⟨i,_,hp | hp⟩ | ⟨x,hx,hp⟩
   ·exact z7
   ·exact z7
   ·have hx2:=(h1 x (A4c _ hx)).2 p hp
    refine⟨λe=>hx2 (by rw[e]),λe=>hx2 (by rw[e]),λe=>(List.pairwise_cons.1 h2).1 x hx p e hp⟩
  rw[Gp,List.nodup_cons,List.nodup_cons,A49];refine⟨λh=>?_,λh=>?_,hq1,ih,λa ha c hc e=>?_⟩
  ·rcases List.mem_cons.1 h with h | h
   ·have:=(Prod.mk.inj h).2;omega
   ·rcases List.mem_append.1 h with h | h
    ·exact hq2 _ h rfl
    ·exact(hr _ h).1 rfl
  ·rcases List.mem_append.1 h with h | h
   ·exact hq2 _ h rfl
   ·exact(hr _ h).2.1 rfl
  ·subst e;exact(hr _ hc).2.2 ha
def Ah.inner:Ah->List Pl
 | ⟨_,_,ds,av,kv,kids⟩=>Jb (vb av) ds.length++Gp 4 (vb kv) 0 (kids.map Ah.inner)
def Ah.dps (m:Ah):List Pl:=Jb (vb m.av) m.ds.length
def Ah.rps (m:Ah):List Pl:=Gp 4 (vb m.kv) 0 (m.kids.map Ah.inner)
theorem Ah.inner_eq (m:Ah):m.inner=m.dps++m.rps:=by obtain⟨k,op,ds,av,kv,kids⟩:=m;rw[Ah.inner];rfl
def MSh (Q:Pl->Prop)(w:World):Ah->Prop
 | ⟨_,_,ds,av,kv,kids⟩=>Sv av (Jb (vb av) ds.length)/\(∃a cap,kv=.slice a kids.length cap/\(0<kids.length->a=some ⟨vb kv,0,none⟩))/\
  (∀i (h:i<kids.length),vb kv<w.heap.size/\Q (vb kv,i*4+2)/\Q (vb kv,i*4+3)/\w.cell? ⟨vb kv,i*4+2,none⟩=some kids[i].av/\w.cell? ⟨vb kv,i*4+3,none⟩=some kids[i].kv)/\∀p∈kids.map (MSh Q w),p
theorem Wx (Q:Pl->Prop)(w:World)(m:Ah):MSh Q w m↔Sv m.av m.dps/\(∃a cap,m.kv=.slice a m.kids.length cap/\(0<m.kids.length->a=some ⟨vb m.kv,0,none⟩))/\
  (∀i (h:i<m.kids.length),vb m.kv<w.heap.size/\Q (vb m.kv,i*4+2)/\Q (vb m.kv,i*4+3)/\w.cell? ⟨vb m.kv,i*4+2,none⟩=some m.kids[i].av/\w.cell? ⟨vb m.kv,i*4+3,none⟩=some m.kids[i].kv)/\∀x∈m.kids,MSh Q w x:=by
 obtain⟨k,op,ds,av,kv,kids⟩:=m;rw[MSh,Stil.all_map];rfl
theorem MSh.map {Q:Pl->Prop}{w:World}(hs:w.heap.size<=w'.heap.size)(hc:∀b o,b<w.heap.size->Q (b,o)->w'.cell? ⟨b,o,none⟩=w.cell? ⟨b,o,none⟩)(m:Ah):MSh Q w m->MSh Q w' m:=by
 refine Ja (λm=>MSh Q w m->MSh Q w' m) ?_ m;intro k op ds av kv kids ih h;rw[Wx] at h ⊢;obtain⟨h1,h2,h3,h4⟩:=h;refine⟨h1,h2,λi hi=>?_,λx hx=>ih x hx (h4 x hx)⟩;obtain⟨c1,c2,c3,c4,c5⟩:=h3 i hi;exact⟨A37 c1 hs,c2,c3,(hc _ _ c1 c2).trans c4,(hc _ _ c1 c3).trans c5⟩
theorem MSh.marked {Q:Pl->Prop}{w:World}{m:Ah}{ps:List Pl}{k:Int}(h:MSh Q w m)(hm:Dk w w' ps k)(hq:∀p∈ps,¬Q p):MSh Q w' m:=MSh.map hm.1 (λb o hl hQ=>hm.2.1 (b,o) hl (λhp=>hq _ hp hQ)) m h
theorem zc0 {p:Prop}(h:p:=by
 obtain rfl:i=n:=by omega
 go_wp2
 go_ret;have hT:qs.take i=qs:=A43 (by have:=HN.out;have:=oN.out;omega);refine⟨C9 (by rw[HL.out,hT]),?_⟩;have:=HM.out
 rwa [hT] at this):p:=h
set_option maxHeartbeats 2000000 in
set_option maxRecDepth 100000 in
theorem Apo (Q:Pl->Prop)(m:Ah):∀(k:Int) (w:World),MSh Q w m->Gn w m.rps->m.rps.Nodup->(∀p∈m.rps,¬Q p)->0<=k->k+m.rps.length<=4611686018427387904->
  Calls Tryz.prog 26 #[m.kv, .int .i64 k] w λe w'=>e=.returned (.int .i64 (k+m.rps.length))/\Dk w w' m.rps k:=by
 refine Ja (λm=>∀(k:Int) (w:World),MSh Q w m->Gn w m.rps->m.rps.Nodup->(∀p∈m.rps,¬Q p)->0<=k->k+m.rps.length<=4611686018427387904->
  Calls Tryz.prog 26 #[m.kv, .int .i64 k] w λe w'=>e=.returned (.int .i64 (k+m.rps.length))/\Dk w w' m.rps k) ?_ m
 intro kk op ds av0 yH kids ih k w hsh hi hnd hq hk0 hkl;have IH:=hid ih;rw[Wx] at hsh;obtain⟨_,⟨a,cap,hkv,ha⟩,hcs,hks⟩:=hsh;simp only at hkv ha hcs hks;obtain⟨b,hb⟩:∃b,b=vb yH:=⟨_,rfl⟩
 obtain⟨qs,gK⟩:∃qs,qs=kids.map Ah.inner:=⟨_,rfl⟩
 have jE:(Ah.mk kk op ds av0 yH kids).rps=Gp 4 b 0 qs:=by rw[hb,gK];rfl
 rw[jE] at hi hnd hq hkl ⊢;rw[<-hb] at ha hcs;simp only;subst hkv;clear hb jE ih;obtain⟨n,hn⟩:∃n,n=kids.length:=⟨_,rfl⟩
 have HN:=hid hn;have oN:Hid (qs.length=kids.length):=by show _=_;rw[gK];simp
 have gm:Hid (∀i (h:i<qs.length) (h':i<kids.length),qs[i]=kids[i].dps++kids[i].rps):=by
  intro i h h';subst gK;rw[List.getElem_map,Ah.inner_eq]
 have HI:=hid hi;have rU:=hid hnd;have pX:=hid hkl;have HQ:=hid hq;have wP:=hid hcs;have oW:=hid hks;have HA:Hid (0<n->a=some ⟨b,0,none⟩):=by rw[hn];exact ha
 have hnb:n<=4611686018427387904:=by
  have h3:=Aih 4 b qs 0;have:=oN.out
  omega
 rw[<-hn];clear hi hnd hkl ha hn hcs hks hq gK;go_enter Tryz.func26,Tryz.ntmps26
 go_wp2
 go_loopw [1,5] (λkv iv wr=>∃(i:Nat) (L:Nat),i<=n/\L=(Gp 4 b 0 (qs.take i)).length/\kv=.int .i64 (k+L)/\iv=.int .i64 i/\Dk w wr (Gp 4 b 0 (qs.take i)) k) (λ_ iv _=>n - (intOf iv).toNat)
 case atStart=>exact⟨0,0,omz,by simp[Gp],spz,rfl,by simpa[Gp] using Dk.of_below (Below.refl _ _)⟩
 case round=>
  obtain⟨i,L,hi,hL,rfl,rfl,hm⟩:=hrel;have HM:=hid hm;have HL:=hid hL;clear hm hL;by_cases hlt:i<n
  ·have hlk:i<kids.length:=by have:=HN.out;omega
   have hlq:i<qs.length:=by have:=oN.out;omega
   obtain rfl:=HA omz;obtain⟨hbz,hQ2,uX,hav,hkv⟩:=wP i hlk;have fP:=oW _ (A4f hlk);have bJ:Gp 4 b 0 qs=Gp 4 b 0 (qs.take i)++(((b,0+i*4)::(b,0+i*4+1)::qs[i])++Gp 4 b (0+(i+1)*4) (qs.drop (i+1))):=by
    rw[Ql 4 b qs 0 (i+1) omz,Tm 4 b qs 0 i hlq,A4w]
   have aU:=hid (Tm 4 b qs 0 i hlq);rw[gm.out i hlq hlk] at bJ aU;have sU:=IH _ (A4f hlk);obtain⟨x,hx⟩:∃x,x=kids[i]:=⟨_,rfl⟩
   rw[<-hx] at bJ aU hav hkv fP sU;have hI:=HI.out;have hN:=rU.out;have hK:=pX.out;have dO:=HQ.out;rw[bJ] at hI hN hK dO;obtain⟨A,hA⟩:∃A,A=Gp 4 b 0 (qs.take i):=⟨_,rfl⟩
   obtain⟨Z,hZ⟩:∃Z,Z=Gp 4 b (0+(i+1)*4) (qs.drop (i+1)):=⟨_,rfl⟩
   rw[<-hA] at hI hN hK HM HL aU dO;rw[<-hZ] at hI hN hK dO;rw[A4h] at hI hN hK dO aU;obtain⟨P,hP⟩:∃P:List Pl,P=[(b,i*4),(b,i*4+1)]:=⟨_,rfl⟩
   obtain⟨D,hD⟩:∃D,D=x.dps:=⟨_,rfl⟩
   obtain⟨R,hR⟩:∃R,R=x.rps:=⟨_,rfl⟩
   have oC:((b,i*4)::(b,i*4+1)::(x.dps++x.rps))=P++(D++R):=by rw[hP,hD,hR];rfl
   rw[oC] at hI hN hK aU dO;have nI:Sv x.av D:=by rw[hD];exact((Wx Q w x).1 fP).1
   have yS:∃a cap,x.kv=.slice a x.kids.length cap:=by
    obtain⟨a1,c1,h1,_⟩:=((Wx Q w x).1 fP).2.1;exact⟨a1,c1,h1⟩
   rw[<-hR] at sU;clear bJ hA hZ hx oC hD hR;have gV:=List.nodup_append.1 hN;have hNP:=List.nodup_append.1 gV.2.1;have jU:=List.nodup_append.1 hNP.1;have qW:=List.nodup_append.1 jU.2.1;have mV:Hid (∀p∈A,p∉P++(D++R)):=λp hp hpq=>gV.2.2 p hp p (A4j _ hpq) rfl
   have kQ:Hid (∀p∈P,p∉D++R):=λp hp hpq=>jU.2.2 p hp p hpq rfl
   have HDR:Hid (∀p∈D,p∉R):=λp hp hpq=>qW.2.2 p hp p hpq rfl
   have vY:=hid qW.1;have HNR2:=hid qW.2.1;have kF:=(hI.right.left).marked HM (λp hp hpa=>gV.2.2 p hpa p (A4j _ hp) rfl);have iW:=kF.left;have wI:=hid (λp hp=>(iW p hp).1);have wJ:=hid kF.right.left;have HIR:=hid kF.right.right;have tK:=hid (λp hp=>(hI.left p hp).1);have lG:=λp hp=>dO p (A4j _ hp)
   have hQP:=λp hp=>dO p (A4g _ (A4j _ (A4j _ hp)))
   have vW:=hid (λp hp=>dO p (A4g _ (A4j _ (A4g _ (A4j _ hp)))));have hQR:=λp hp=>dO p (A4g _ (A4j _ (A4g _ (A4g _ hp))))
   have hc2:wr.cell? ⟨b,i*4+2,none⟩=some x.av:=(HM.2.1 (b,i*4+2) hbz (λh=>lG _ h hQ2)).trans hav;have hc3:wr.cell? ⟨b,i*4+3,none⟩=some x.kv:=(HM.2.1 (b,i*4+3) hbz (λh=>lG _ h uX)).trans hkv;have HSX:=hid (fP.marked HM lG);have hLn:=HL.out;have hPl:P.length=2:=by rw[hP];rfl
   simp only[A38] at hK;have hq1:D.length<=4611686018427387904:=omz
   have hk2:k+L+2<=4611686018427387904:=omz
   have hk3:k+L+2+D.length+R.length<=4611686018427387904:=omz
   have HC:=hid (λW hW=>Xf x.av D (k+L+2) W nI hW vY omz hk2 hq1);have HC2:=hid (λW h1 h2=>sU _ W h1 h2 HNR2 hQR omz hk3);obtain⟨⟨hb0,⟨n0,c0⟩,f0⟩,⟨_,⟨n1,c1⟩,f1⟩⟩:(b<wr.heap.size/\(∃n,wr.cell? ⟨b,i*4,none⟩=some (.int .i64 n))/\wr.frozen? ⟨b,i*4,none⟩=false)/\(b<wr.heap.size/\(∃n,wr.cell? ⟨b,i*4+1,none⟩=some (.int .i64 n))/\wr.frozen? ⟨b,i*4+1,none⟩=false):=
    ⟨iW (b,i*4) (by rw[hP];simp),iW (b,i*4+1) (by rw[hP];simp)⟩
   have iO:Hid (Dk wr ((wr.setCell ⟨b,i*4,none⟩ (.int .i64 (k+L))).setCell ⟨b,i*4+1,none⟩ (.int .i64 (k+L+1))) P (k+L)):=by rw[hP];exact Dk.two (k+L) hb0 c0 c1
   have gX:=hid hPl;have HQP:=hid hQP;have pV:=hid uX;obtain⟨jy,jC⟩:∃v,v=x.av:=⟨_,rfl⟩
   obtain⟨xR,mY⟩:∃v,v=x.kv:=⟨_,rfl⟩
   rw[<-jC] at hc2 HC nI;rw[<-mY] at hc3 HC2 yS;obtain⟨a',n',cap',rfl,hz1,hz2⟩:=nI;clear hz1 hz2;obtain⟨a'',cap'',rfl⟩:=yS;clear hI hN hK gV hNP jU qW kF iW hav hkv hP hLn lG hQP hQR dO fP sU hQ2 uX jC mY;have w1:IntKind.i64.wrap (k+(L:Int)+1)=k+L+1:=by rw[IntKind.wrap_i64];omega
   have w2:IntKind.i64.wrap (k+(L:Int)+1+1)=k+L+2:=by rw[IntKind.wrap_i64];omega
   go_wp2_with (go_at_call 25;refine(HC _ (wJ.marked iO (λp hp hpp=>kQ p hpp (A4j _ hp)))).mono ?_;rintro e w3 ⟨rfl,fU⟩;have hb3:=A37 (by simpa using hb0) fU.1;have hd3:w3.cell? ⟨b,i*4+3,none⟩=some (.slice a'' x.kids.length cap''):=(fU.2.1 (b,i*4+3) (by simpa using hb0) (λh=>vW _ h pV.out)).trans ((Bh omz).trans ((Bh omz).trans hc3)))
   go_wp2_with (go_at_call 26;refine(HC2 _ ((HSX.marked iO HQP.out).marked fU vW.out) (((HIR.out).marked iO (λp hp hpp=>kQ p hpp (A4g _ hp))).marked fU (λp hp lM=>HDR p lM hp))).mono ?_;rintro e w4 ⟨rfl,hm4⟩)
   refine⟨⟨i+1,L+2+D.length+R.length,omz,?_,?_,by go_num,?_⟩,by simp[intOf];omega⟩
   ·rw[aU.out,A38,A38,A38,gX.out,<-HL.out];omega
   ·congr 1;omega
   ·rw[aU.out]
    refine Dk.append HM.out ?_ tK mV.out;rw[<-HL.out];refine Dk.append iO.out ?_ wI kQ.out;rw[gX.out];refine Dk.append fU hm4 (λp hp=>A37 (wJ p hp).1 iO.1) HDR.out
  ·exact zc0
theorem Mc {w:World}{ds:List Stil.Dev}(h:w.ownsRow base 86 3 u ds.length (Cb ds)):
  Sv u (Jb (vb u) ds.length)/\Gn w (Jb (vb u) ds.length)/\∀p∈Jb (vb u) ds.length,base<=p.1/\u.ownBlock=some p.1:=by
 by_cases hd:ds.length=0
 ·have hn:=List.length_eq_zero_iff.1 hd
  subst hn;obtain⟨a,cap,rfl⟩:=Af h;exact⟨⟨a,0,cap,rfl,rfl,λj hj=>absurd hj (by simp[Jb])⟩,(λp hp=>by simp[Jb] at hp),(λp hp=>by simp[Jb] at hp)⟩
 ·obtain⟨g,cap,hv,hbase,hlt,_,hc⟩:=Az h omz
  subst hv;have hvb:vb (.slice (some ⟨g,0,none⟩) ds.length cap)=g:=rfl;rw[hvb];refine⟨⟨_,_,_,rfl,Qv _ _,λj hj=>⟨g,0,rfl,by simp[Jb]⟩⟩,λp hp=>?_,λp hp=>?_⟩
  ·exact zP
  ·obtain⟨h1,_⟩:=U6 hp
   rw[h1];exact⟨hbase,rfl⟩
def Ah.rows:Ah->List Value
 | ⟨_,_,_,_,kv,kids⟩=>kv::(kids.map Ah.rows).flatten
theorem Ah.rows_eq (m:Ah):m.rows=m.kv::(m.kids.map Ah.rows).flatten:=by obtain⟨k,op,ds,av,kv,kids⟩:=m;rw[Ah.rows]
theorem Ah.mem_rows {m x:Ah}(hx:x∈m.kids)(hv:v∈x.rows):v∈m.rows:=by
 rw[Ah.rows_eq];exact A4c _ (List.mem_flatten.2 ⟨_,List.mem_map.2 ⟨x,hx,rfl⟩,hv⟩)
def heads (rows:List Value)(p:Pl):Prop:=2<=p.2 % 4/\∃v∈rows,v.ownBlock=some p.1
theorem MSh.mono {Q Q':Pl->Prop}{w:World}(hq:∀p,Q p->Q' p)(m:Ah):MSh Q w m->MSh Q' w m:=by
 refine Ja (λm=>MSh Q w m->MSh Q' w m) ?_ m;intro k op ds av kv kids ih h;rw[Wx] at h ⊢;obtain⟨h1,h2,h3,h4⟩:=h;refine⟨h1,h2,λi hi=>?_,λx hx=>ih x hx (h4 x hx)⟩;obtain⟨c1,c2,c3,c4,c5⟩:=h3 i hi;exact⟨c1,hq _ c2,hq _ c3,c4,c5⟩
theorem zl0 {p:Prop}(h:p:=by
 simp only
 by_cases hz:kids.length=0
 ·obtain⟨a,cap,rfl⟩:=Af hK
  exact⟨a,cap,rfl,λh=>absurd h omz⟩
 ·obtain⟨g,cap,hv,_⟩:=Az hK omz
  refine⟨some ⟨g,0,none⟩,cap,hv,λ_=>?_⟩;rw[hv];rfl):p:=h
theorem Ah.places {w:World}(m:Ah):Ik w base m->MSh (heads m.rows) w m/\Gn w m.inner/\m.inner.Nodup/\(∀p∈m.inner,base<=p.1/\∃x∈m.vals,x.ownBlock=some p.1)/\∀p∈m.inner,¬heads m.rows p:=by
 refine Ja (λm=>Ik w base m->MSh (heads m.rows) w m/\Gn w m.inner/\m.inner.Nodup/\(∀p∈m.inner,base<=p.1/\∃x∈m.vals,x.ownBlock=some p.1)/\∀p∈m.inner,¬heads m.rows p) ?_ m;intro k op ds av kv kids ih h;obtain⟨hok,hpw⟩:=h;have hok2:=(H5 _ _ _).1 hok;obtain⟨hA,hK,hkids⟩:=hok2;simp only at hA hK hkids;rw[Ah.vals_eq,A4u,A4u] at hpw;simp only at hpw;obtain⟨hpa,hpk,hps⟩:=hpw;have nM:=hps;unfold Ew at nM;rw[List.pairwise_flatten] at nM;have bZ:∀x∈kids,Ik w base x:=λx hx=>⟨hkids x hx,nM.1 _ (List.mem_map.2 ⟨x,hx,rfl⟩)⟩
 have hvm:∀x∈kids,∀v∈x.vals,v∈Ew kids:=λx hx v hv=>Jc.2 ⟨x,hx,hv⟩
 have xB:∀(y:Ah),∀v∈y.rows,v∈y.vals:=by
  intro y;refine Ja (λy=>∀v∈y.rows,v∈y.vals) ?_ y;intro k' op' ds' kG kv' kids' ih' v hv;rw[Ah.rows_eq] at hv;rw[Ah.vals_eq];rcases List.mem_cons.1 hv with hv | hv
  ·simp[hv]
  ·obtain⟨l,hl,hv⟩:=List.mem_flatten.1 hv
   obtain⟨x,hx,rfl⟩:=List.mem_map.1 hl;exact A4c _ (A4c _ (Jc.2 ⟨x,hx,ih' x hx v hv⟩))
 obtain⟨d1,d2,d3⟩:=Mc hA;obtain⟨b,hb⟩:∃b,b=vb kv:=⟨_,rfl⟩
 obtain⟨qs,gK⟩:∃qs,qs=kids.map Ah.inner:=⟨_,rfl⟩
 have hin:(Ah.mk k op ds av kv kids).inner=Jb (vb av) ds.length++Gp 4 b 0 qs:=by rw[Ah.inner,hb,gK]
 have jG:0<kids.length->kv.ownBlock=some b:=by
  intro hz;obtain⟨g,cap,hv,_⟩:=Az hK hz;rw[hb,hv];rfl
 have hqm:∀q∈qs,∃x∈kids,q=x.inner:=by
  intro q hq;rw[gK] at hq;obtain⟨x,hx,rfl⟩:=List.mem_map.1 hq;exact⟨x,hx,rfl⟩
 have hrow:∀p∈Gp 4 b 0 qs,(p.1=b/\kv.ownBlock=some b/\p.2 % 4<2/\p.2<kids.length*4)\/∃x∈kids,p∈x.inner:=by
  intro p hp;rcases Ov 4 b qs 0 p hp with⟨i,hi,hp⟩ | ⟨q,hq,hp⟩
  ·have hi':i<kids.length:=by rw[gK] at hi;simpa using hi
   refine .inl ?_;rcases hp with rfl | rfl
   ·exact⟨rfl,jG omz,by simp only;omega,by simp only;omega⟩
   ·exact⟨rfl,jG omz,by simp only;omega,by simp only;omega⟩
  ·obtain⟨x,hx,rfl⟩:=hqm q hq
   exact .inr ⟨x,hx,hp⟩
 have hblk:∀p∈(Ah.mk k op ds av kv kids).inner,base<=p.1/\∃x∈av::kv::Ew kids,x.ownBlock=some p.1:=by
  intro p hp;rw[hin] at hp;rcases List.mem_append.1 hp with hp | hp
  ·exact⟨(d3 p hp).1,av,spz,(d3 p hp).2⟩
  ·rcases hrow p hp with⟨h1,h2,_⟩ | ⟨x,hx,hp⟩
   ·rw[h1]
    exact⟨(hK.lt b h2).1,kv,spz,h2⟩
   ·obtain⟨h1,v,hv,h2⟩:=(ih x hx (bZ x hx)).2.2.2.1 p hp
    exact⟨h1,v,A4c _ (A4c _ (hvm x hx v hv)),h2⟩
 have xh:∀p∈(Ah.mk k op ds av kv kids).inner,¬heads (Ah.mk k op ds av kv kids).rows p:=by
  intro p hp hh;obtain⟨h4,v,hv,hvb⟩:=hh;rw[Ah.rows_eq] at hv;simp only at hv;rw[hin] at hp;have hv2:v=kv\/∃x∈kids,v∈x.rows:=by
   rcases List.mem_cons.1 hv with hv | hv
   ·exact .inl hv
   ·obtain⟨l,hl,hv⟩:=List.mem_flatten.1 hv
    obtain⟨x,hx,rfl⟩:=List.mem_map.1 hl;exact .inr ⟨x,hx,hv⟩
  have hv3:v=kv\/v∈Ew kids:=by
   rcases hv2 with h | ⟨x,hx,h⟩
   ·exact .inl h
   ·exact .inr (hvm x hx v (xB x v h))
  rcases List.mem_append.1 hp with hp | hp
  ·have h2:=(d3 p hp).2
   refine(hpa v ?_).no h2 hvb;rcases hv3 with h | h
   ·simp[h]
   ·exact A4c _ h
  ·rcases hrow p hp with⟨h1,h2,h3,_⟩ | ⟨x,hx,hp⟩
   ·omega
   ·obtain⟨_,u,hu,h2⟩:=(ih x hx (bZ x hx)).2.2.2.1 p hp
    rcases hv2 with h | ⟨y,hy,h⟩
    ·rw[h] at hvb
     exact(hpk u (hvm x hx u hu)).no hvb h2
    ·obtain⟨i,hi,rfl⟩:=List.getElem_of_mem hx
     obtain⟨j,hj,rfl⟩:=List.getElem_of_mem hy;by_cases e:i=j
     ·subst e
      exact(ih _ hx (bZ _ hx)).2.2.2.2 p hp ⟨h4,v,h,hvb⟩
     ·have hpp:=nM.2
      rw[List.pairwise_map] at hpp;have yV:=List.pairwise_iff_getElem.1 hpp;rcases Nat.lt_or_gt_of_ne e with e | e
      ·exact(yV i j hi hj e u hu v (xB _ v h)).no h2 hvb
      ·exact(yV j i hj hi e v (xB _ v h) u hu).no hvb h2
 refine⟨?_,?_,?_,?_,xh⟩
 ·rw[Wx]
  refine⟨d1,?_,λi hi=>?_,λx hx=>MSh.mono (λp hp=>⟨hp.1,hp.2.choose,Ah.mem_rows (m:=⟨k,op,ds,av,kv,kids⟩) hx hp.2.choose_spec.1,hp.2.choose_spec.2⟩) x (ih x hx (bZ x hx)).1⟩
  ·exact zl0
  ·simp only at hi ⊢
   obtain⟨g,cap,hv,_,hlt,_,hcell⟩:=Az hK omz;have e:vb kv=g:=by rw[hv];rfl
   rw[e];obtain⟨_,_,a3,a4⟩:=Jj kids i hi;have hg:kv.ownBlock=some g:=by rw[hv];rfl
   exact⟨hlt,⟨by simp only;omega,kv,by rw[Ah.rows_eq];simp,hg⟩,⟨by simp only;omega,kv,by rw[Ah.rows_eq];simp,hg⟩,hcell _ _ a3,hcell _ _ a4⟩
 ·rw[hin]
  intro p hp;rcases List.mem_append.1 hp with hp | hp
  ·exact d2 p hp
  ·rcases Ov 4 b qs 0 p hp with⟨i,hi,hp⟩ | ⟨q,hq,hp⟩
   ·have hi':i<kids.length:=by rw[gK] at hi;simpa using hi
    obtain⟨g,cap,hv,_,hlt,_,hcell⟩:=Az hK omz;have e:b=g:=by rw[hb,hv];rfl
    subst e;subst hv;obtain⟨a1,a2,_,_⟩:=Jj kids i hi';rcases hp with rfl | rfl
    ·exact⟨hlt,⟨_,by rw[ad];simp only[A4h];exact hcell _ _ a1⟩,hK.frozenAt _⟩
    ·exact⟨hlt,⟨_,by rw[ad];simp only[A4h];exact hcell _ _ a2⟩,hK.frozenAt _⟩
   ·obtain⟨x,hx,rfl⟩:=hqm q hq
    exact(ih x hx (bZ x hx)).2.1 p hp
 ·rw[hin,A49]
  refine⟨U5 _ _,Yi 4 b omz qs 0 (λq hq=>?_) ?_,λp hp r hr e=>?_⟩
  ·obtain⟨x,hx,rfl⟩:=hqm q hq
   refine⟨(ih x hx (bZ x hx)).2.2.1,λp hp e=>?_⟩;obtain⟨_,u,hu,h2⟩:=(ih x hx (bZ x hx)).2.2.2.1 p hp;rw[e] at h2;exact(hpk u (hvm x hx u hu)).no (jG (List.length_pos_of_mem hx)) h2
  ·rw[gK,List.pairwise_map]
   refine List.pairwise_iff_getElem.2 (λi j hi hj hij p hp hp2=>?_);have hx:=A4f hi;have hy:=A4f hj;obtain⟨_,u,hu,h1⟩:=(ih _ hx (bZ _ hx)).2.2.2.1 p hp;obtain⟨_,v,hv,h2⟩:=(ih _ hy (bZ _ hy)).2.2.2.1 p hp2;have hpp:=nM.2;rw[List.pairwise_map] at hpp;exact((List.pairwise_iff_getElem.1 hpp) i j hi hj hij u hu v hv).no h1 h2
  ·subst e
   have h2:=(d3 p hp).2;rcases hrow p hr with⟨h1,h3,_⟩ | ⟨x,hx,hr⟩
   ·rw[h1] at h2
    exact(hpa kv spz).no h2 h3
   ·obtain⟨_,u,hu,h3⟩:=(ih x hx (bZ x hx)).2.2.2.1 p hr
    exact(hpa u (A4c _ (hvm x hx u hu))).no h2 h3
 ·intro p hp
  rw[Ah.vals_eq];exact hblk p hp
theorem Ah.count (m:Ah):Dc m.net->m.inner.length+2<=Aj m.net*3145730:=by
 refine Ja (λm=>Dc m.net->m.inner.length+2<=Aj m.net*3145730) ?_ m;intro k op ds av kv kids ih hf;have e:=Ah.net_eq ⟨k,op,ds,av,kv,kids⟩;simp only at e;rw[e] at hf ⊢;obtain⟨_,he,_,hk⟩:=(Hu _ _ _).1 hf;rw[Ah.inner_eq,Lu,A38];have h1:(Ah.mk k op ds av kv kids).dps.length=3*ds.length:=by rw[Ah.dps,Qv]
 have h2:ds.length<=1048576:=he.2.1;have h3:∀(l:List Ah) (b o:Nat),(∀x∈l,x.inner.length+2<=Aj x.net*3145730)->(Gp 4 b o (l.map Ah.inner)).length<=((l.map Ah.net).map Aj).sum*3145730:=by
  intro l;induction l with
  | nil=>intro b o _;simp[Gp]
  | cons x r ih2=>
   intro b o h;have a1:=h x spz;have a2:=ih2 b (o+4) (λy hy=>h y (A4c _ hy));simp only[A4q,Gp,A39,A38,List.sum_cons,Nat.add_mul] at a2 ⊢;omega
 have h4:=h3 kids (vb kv) 0 (λx hx=>ih x hx (hk _ (List.mem_map.2 ⟨x,hx,rfl⟩)));have h5:(Ah.mk k op ds av kv kids).rps.length=(Gp 4 (vb kv) 0 (kids.map Ah.inner)).length:=rfl;rw[h1,h5,Nat.add_mul];omega
end Go.Proofs.YtbfljjcnbbmoaaaGreatDoor
