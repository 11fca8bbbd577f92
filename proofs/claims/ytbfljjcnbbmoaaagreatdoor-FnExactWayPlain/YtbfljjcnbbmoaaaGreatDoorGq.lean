import Derived.Test.YtbfljjcnbbmoaaaGreatDoorGm
set_option maxHeartbeats 4000000
set_option maxRecDepth 100000
namespace Go.Proofs.YtbfljjcnbbmoaaaGreatDoor
open Go.RowKit Go.Sort Go.BigFrame
structure Cm where
 op:Int
 ds:List Stil.Dev
 av:Value
def Cm.elem (m:Cm):Stil.Elem:=⟨m.op,m.ds⟩
def Et (es:List Cm):List Value:=es.map Cm.av
def Cm.cells (m:Cm):List Value:=[.int .i64 m.op,m.av]
def Fq (es:List Cm):List Value:=es.flatMap Cm.cells
theorem Zd (a b:List Cm):Fq (a++b)=Fq a++Fq b:=by simp[Fq]
theorem Aqd (m:Cm):Fq [m]=m.cells:=by simp[Fq]
theorem Q8 (a b:List Cm):Et (a++b)=Et a++Et b:=by simp[Et]
theorem Iy {es:List Cm} {x:Value}:x∈Et es↔∃m∈es,m.av=x:=by simp[Et]
theorem Wp (es:List Cm):(Fq es).length=es.length*2:=by
 induction es with
 | nil=>rfl
 | cons m r ih=>
  have e:Fq (m::r)=m.cells++Fq r:=rfl;rw[e,A4d,ih];simp[Cm.cells];omega
theorem Po:∀(es:List Cm) (i:Nat) (h:i<es.length),(Fq es)[i*2]?=some (.int .i64 es[i].op)/\(Fq es)[i*2+1]?=some es[i].av
 | [],_,h=>by simp at h
 | m::r,0,_=>⟨rfl,rfl⟩
 | m::r,i+1,h=>by
  obtain⟨a1,a2⟩:=Po r i (by simpa using h);have e:Fq (m::r)=.int .i64 m.op::m.av::Fq r:=rfl;have e1:(i+1)*2=i*2+1+1:=by omega
  rw[e,e1];exact⟨by simpa using a1,by simpa using a2⟩
def EOk (w:World) (base:Nat) (m:Cm):Prop:=w.ownsRow base 86 3 m.av m.ds.length (Bz m.ds)
def Ou (w:World) (base:Nat) (v:Value) (es:List Cm):Prop:=w.ownsRow base 49 2 v es.length (Fq es)/\(∀m∈es,EOk w base m)/\(v::Et es).Pairwise Aside
theorem Ou.nil (w:World) (base:Nat):Ou w base (.slice none 0 0) []:=⟨World.ownsRow_nil _ _ _ _,(λm hm=>by cases hm),List.pairwise_singleton _ _⟩
theorem Ou.below {w w':World} {base:Nat} {v:Value} {es:List Cm} (h:Ou w base v es) (hb:Below w.heap.size w w'):Ou w' base v es:=⟨ownsRow_below h.1 hb,λm hm=>ownsRow_below (h.2.1 m hm) hb,h.2.2⟩
theorem Ou.le {w:World} {base base':Nat} {v:Value} {es:List Cm} (h:Ou w base v es) (hl:base'<=base):Ou w base' v es:=⟨Joins.ownsRow_le h.1 hl,λm hm=>Joins.ownsRow_le (h.2.1 m hm) hl,h.2.2⟩
theorem Ou.lt {w:World} {base:Nat} {v:Value} {es:List Cm} (h:Ou w base v es):∀x∈v::Et es,∀k,x.ownBlock=some k->base<=k/\k<w.heap.size:=by
 intro x hx k hk;rcases List.mem_cons.1 hx with rfl | hx
 ·exact h.1.lt k hk
 ·obtain⟨m,hm,rfl⟩:=Iy.1 hx
  exact(h.2.1 m hm).lt k hk
theorem Ou.add {w w':World} {base:Nat} {v v':Value} {es ks:List Cm} (h:Ou w base v es) (hk:∀m∈ks,EOk w base m) (hp:(v::(Et es++Et ks)).Pairwise Aside)
  (hown:w'.ownsRow base 49 2 v' (es.length+ks.length) (Fq es++Fq ks)) (hg:w.grownBy w' v.ownBlock) (hat:v'.ownBlock=v.ownBlock\/v'.ownBlock=some w.heap.size):Ou w' base v' (es++ks):=by
 rw[A4z] at hp;have hkl:∀x∈Et es++Et ks,∀k,x.ownBlock=some k->k<w.heap.size:=by
  intro x hx k hk2;rcases List.mem_append.1 hx with hx | hx
  ·exact(h.lt x (A4h _ hx) k hk2).2
  ·obtain⟨m,hm,rfl⟩:=Iy.1 hx
   exact((hk m hm).lt k hk2).2
 refine⟨by rw[A4d,Zd];exact hown,λm hm=>?_,?_⟩
 ·rcases List.mem_append.1 hm with hm | hm
  ·exact(h.2.1 m hm).kept hg (hp.1 _ (A4o _ (Iy.2 ⟨m,hm,rfl⟩))).symm
  ·exact(hk m hm).kept hg (hp.1 _ (A4l _ (Iy.2 ⟨m,hm,rfl⟩))).symm
 ·rw[Q8,A4z]
  refine⟨λy hy=>?_,hp.2⟩;rcases hat with e | e
  ·rcases hp.1 y hy with h0 | h0
   ·exact .inl (by rw[e];exact h0)
   ·exact .inr (by rw[e];exact h0)
  ·refine .inr (λe2=>?_)
   rw[e] at e2;have:=hkl y hy _ e2.symm
   omega
structure Au where
 net:Ah
 cv:Value
 coils:List Cm
 kv:Value
 kids:List Au
theorem Jz (P:Au->Prop) (h:∀n cv cs kv kids,(∀x∈kids,P x)->P ⟨n,cv,cs,kv,kids⟩):∀n,P n
 | ⟨n,cv,cs,kv,kids⟩=>h n cv cs kv kids (λx _=>Jz P h x)
def Au.arm:Au->Stil.Arm
 | ⟨n,_,cs,_,kids⟩=>⟨n.net,cs.map Cm.elem,kids.map Au.arm⟩
theorem Au.arm_eq (m:Au):m.arm=⟨m.net.net,m.coils.map Cm.elem,m.kids.map Au.arm⟩:=by obtain⟨n,cv,cs,kv,kids⟩:=m;rw[Au.arm]
def Au.vals:Au->List Value
 | ⟨n,cv,cs,kv,kids⟩=>n.vals++((cv::Et cs)++(kv::(kids.map Au.vals).flatten))
def Fp (ars:List Au):List Value:=(ars.map Au.vals).flatten
theorem Au.vals_eq (m:Au):m.vals=m.net.vals++((m.cv::Et m.coils)++(m.kv::Fp m.kids)):=by obtain⟨n,cv,cs,kv,kids⟩:=m;rw[Au.vals];rfl
theorem Rf (a b:List Au):Fp (a++b)=Fp a++Fp b:=by simp[Fp]
theorem L8 (m:Au):Fp [m]=m.vals:=by simp[Fp]
theorem Ie {ars:List Au} {x:Value}:x∈Fp ars↔∃m∈ars,x∈m.vals:=by
 simp only[Fp,List.mem_flatten,A4x];constructor
 ·rintro⟨_,⟨m,hm,rfl⟩,hx⟩;exact⟨m,hm,hx⟩
 ·rintro⟨m,hm,hx⟩;exact⟨_,⟨m,hm,rfl⟩,hx⟩
def Au.cells (m:Au):List Value:=[.int .i64 m.net.kind, .int .i64 m.net.op,m.net.av,m.net.kv,m.cv,m.kv]
def Fj (ars:List Au):List Value:=ars.flatMap Au.cells
theorem Zn (a b:List Au):Fj (a++b)=Fj a++Fj b:=by simp[Fj]
theorem Arq (m:Au):Fj [m]=m.cells:=by simp[Fj]
theorem W9 (ars:List Au):(Fj ars).length=ars.length*6:=by
 induction ars with
 | nil=>rfl
 | cons m r ih=>
  have e:Fj (m::r)=m.cells++Fj r:=rfl;rw[e,A4d,ih];simp[Au.cells];omega
theorem Ll:∀(ars:List Au) (i:Nat) (h:i<ars.length),(Fj ars)[i*6]?=some (.int .i64 ars[i].net.kind)/\(Fj ars)[i*6+1]?=some (.int .i64 ars[i].net.op)/\(Fj ars)[i*6+2]?=some ars[i].net.av/\(Fj ars)[i*6+3]?=some ars[i].net.kv/\(Fj ars)[i*6+4]?=some ars[i].cv/\(Fj ars)[i*6+5]?=some ars[i].kv
 | [],_,h=>by simp at h
 | m::r,0,_=>⟨rfl,rfl,rfl,rfl,rfl,rfl⟩
 | m::r,i+1,h=>by
  obtain⟨a1,a2,a3,a4,a5,a6⟩:=Ll r i (by simpa using h);have e:Fj (m::r)=.int .i64 m.net.kind::.int .i64 m.net.op::m.net.av::m.net.kv::m.cv::m.kv::Fj r:=rfl;have e1:(i+1)*6=i*6+1+1+1+1+1+1:=by omega
  rw[e,e1];exact⟨by simpa using a1,by simpa using a2,by simpa using a3,by simpa using a4,by simpa using a5,by simpa using a6⟩
def AOk (w:World) (base:Nat):Au->Prop
 | ⟨n,cv,cs,kv,kids⟩=>MOk w base n/\(w.ownsRow base 49 2 cv cs.length (Fq cs)/\∀m∈cs,EOk w base m)/\w.ownsRow base 55 6 kv kids.length (Fj kids)/\∀p∈kids.map (AOk w base),p
theorem G8 (w:World) (base:Nat) (m:Au):AOk w base m↔MOk w base m.net/\(w.ownsRow base 49 2 m.cv m.coils.length (Fq m.coils)/\∀x∈m.coils,EOk w base x)/\w.ownsRow base 55 6 m.kv m.kids.length (Fj m.kids)/\∀x∈m.kids,AOk w base x:=by
 obtain⟨n,cv,cs,kv,kids⟩:=m;rw[AOk,Stil.all_map]
theorem AOk.map {w w':World} {base base':Nat} (m:Au) (h:AOk w base m) (hk:∀(e:TypeId) (s n:Nat) (v:Value) (xs:List Value),v∈m.vals->w.ownsRow base e s v n xs->w'.ownsRow base' e s v n xs):AOk w' base' m:=by
 revert h hk
 refine Jz (λm=>AOk w base m->(∀(e:TypeId) (s n:Nat) (v:Value) (xs:List Value),v∈m.vals->w.ownsRow base e s v n xs->w'.ownsRow base' e s v n xs)->AOk w' base' m) ?_ m;intro n cv cs kv kids ih h hk;rw[G8] at h ⊢;simp only[Au.vals_eq] at hk;obtain⟨h1,⟨h2,h3⟩,h4,h5⟩:=h;refine⟨MOk.map n h1 (λe s k v xs hv=>hk e s k v xs (A4o _ hv)),⟨hk _ _ _ _ _ (by simp) h2,λx hx=>hk _ _ _ _ _ ?_ (h3 x hx)⟩,hk _ _ _ _ _ (by simp) h4,λx hx=>ih x hx (h5 x hx) (λe s k v xs hv=>hk e s k v xs ?_)⟩
 ·exact A4l _ (A4o _ (A4h _ (Iy.2 ⟨x,hx,rfl⟩)))
 ·exact A4l _ (A4l _ (A4h _ (Ie.2 ⟨x,hx,hv⟩)))
theorem AOk.below {w w':World} {base:Nat} {m:Au} (h:AOk w base m) (hb:Below w.heap.size w w'):AOk w' base m:=AOk.map m h (λ_ _ _ _ _ _ ho=>ownsRow_below ho hb)
theorem AOk.kept {w w':World} {base:Nat} {m:Au} {x:Value} (h:AOk w base m) (hg:w.grownBy w' x.ownBlock) (ha:∀u∈m.vals,Aside u x):AOk w' base m:=AOk.map m h (λ_ _ _ _ _ hv ho=>ho.kept hg (ha _ hv))
theorem AOk.le {w:World} {base base':Nat} {m:Au} (h:AOk w base m) (hl:base'<=base):AOk w base' m:=AOk.map m h (λ_ _ _ _ _ _ ho=>Joins.ownsRow_le ho hl)
theorem AOk.low {w w':World} {base lo:Nat} {m:Au} (h:AOk w base m) (hb:Below lo w w') (hv:∀x∈m.vals,∀k,x.ownBlock=some k->k<lo):AOk w' base m:=AOk.map m h (λ_ _ _ _ _ hx ho=>Acb ho hb (hv _ hx))
theorem AOk.lt {w:World} {base:Nat} (m:Au) (h:AOk w base m):∀x∈m.vals,∀k,x.ownBlock=some k->base<=k/\k<w.heap.size:=by
 revert h
 refine Jz (λm=>AOk w base m->∀x∈m.vals,∀k,x.ownBlock=some k->base<=k/\k<w.heap.size) ?_ m;intro n cv cs kv kids ih h x hx j hj;rw[G8] at h;obtain⟨h1,⟨h2,h3⟩,h4,h5⟩:=h;rw[Au.vals_eq] at hx;simp only[A4q,A4y] at hx;rcases hx with hx | (rfl | hx) | rfl | hx
 ·exact h1.lt _ x hx j hj
 ·exact h2.lt j hj
 ·obtain⟨y,hy,rfl⟩:=Iy.1 hx
  exact(h3 y hy).lt j hj
 ·exact h4.lt j hj
 ·obtain⟨y,hy,hx⟩:=Ie.1 hx
  exact ih y hy (h5 y hy) x hx j hj
def Hy (w:World) (base:Nat) (m:Au):Prop:=AOk w base m/\m.vals.Pairwise Aside
theorem Hy.below {w w':World} {base:Nat} {m:Au} (h:Hy w base m) (hb:Below w.heap.size w w'):Hy w' base m:=⟨h.1.below hb,h.2⟩
theorem Hy.le {w:World} {base base':Nat} {m:Au} (h:Hy w base m) (hl:base'<=base):Hy w base' m:=⟨h.1.le hl,h.2⟩
def Na (w:World) (base:Nat) (v:Value) (ars:List Au):Prop:=w.ownsRow base 55 6 v ars.length (Fj ars)/\(∀m∈ars,AOk w base m)/\(v::Fp ars).Pairwise Aside
theorem Na.nil (w:World) (base:Nat):Na w base (.slice none 0 0) []:=⟨World.ownsRow_nil _ _ _ _,(λm hm=>by cases hm),List.pairwise_singleton _ _⟩
theorem Na.below {w w':World} {base:Nat} {v:Value} {ars:List Au} (h:Na w base v ars) (hb:Below w.heap.size w w'):Na w' base v ars:=⟨ownsRow_below h.1 hb,λm hm=>(h.2.1 m hm).below hb,h.2.2⟩
theorem Na.le {w:World} {base base':Nat} {v:Value} {ars:List Au} (h:Na w base v ars) (hl:base'<=base):Na w base' v ars:=⟨Joins.ownsRow_le h.1 hl,λm hm=>(h.2.1 m hm).le hl,h.2.2⟩
theorem Na.lt {w:World} {base:Nat} {v:Value} {ars:List Au} (h:Na w base v ars):∀x∈v::Fp ars,∀k,x.ownBlock=some k->base<=k/\k<w.heap.size:=by
 intro x hx k hk;rcases List.mem_cons.1 hx with rfl | hx
 ·exact h.1.lt k hk
 ·obtain⟨m,hm,hx⟩:=Ie.1 hx
  exact(h.2.1 m hm).lt m x hx k hk
theorem Na.add {w w':World} {base:Nat} {v v':Value} {ars ks:List Au} (h:Na w base v ars) (hk:∀m∈ks,AOk w base m) (hp:(v::(Fp ars++Fp ks)).Pairwise Aside)
  (hown:w'.ownsRow base 55 6 v' (ars.length+ks.length) (Fj ars++Fj ks)) (hg:w.grownBy w' v.ownBlock) (hat:v'.ownBlock=v.ownBlock\/v'.ownBlock=some w.heap.size):Na w' base v' (ars++ks):=by
 rw[A4z] at hp;have hkl:∀x∈Fp ars++Fp ks,∀k,x.ownBlock=some k->k<w.heap.size:=by
  intro x hx k hk2;rcases List.mem_append.1 hx with hx | hx
  ·exact(h.lt x (A4h _ hx) k hk2).2
  ·obtain⟨m,hm,hx⟩:=Ie.1 hx
   exact((hk m hm).lt m x hx k hk2).2
 refine⟨by rw[A4d,Zn];exact hown,λm hm=>?_,?_⟩
 ·rcases List.mem_append.1 hm with hm | hm
  ·exact(h.2.1 m hm).kept hg (λu hu=>(hp.1 u (A4o _ (Ie.2 ⟨m,hm,hu⟩))).symm)
  ·exact(hk m hm).kept hg (λu hu=>(hp.1 u (A4l _ (Ie.2 ⟨m,hm,hu⟩))).symm)
 ·rw[Rf,A4z]
  refine⟨λy hy=>?_,hp.2⟩;rcases hat with e | e
  ·rcases hp.1 y hy with h0 | h0
   ·exact .inl (by rw[e];exact h0)
   ·exact .inr (by rw[e];exact h0)
  ·refine .inr (λe2=>?_)
   rw[e] at e2;have:=hkl y hy _ e2.symm
   omega
theorem Na.apart {w w1:World} {base:Nat} {v:Value} {ars ks:List Au} {b1:Nat} (h:Na w base v ars) (hk:∀m∈ks,AOk w1 b1 m) (hb:w.heap.size<=b1) (hp:(Fp ks).Pairwise Aside):(v::(Fp ars++Fp ks)).Pairwise Aside:=by
 have hx:=h.lt;have hy:∀y∈Fp ks,∀k,y.ownBlock=some k->w.heap.size<=k:=by
  intro y hy k hk2;obtain⟨m,hm,hy⟩:=Ie.1 hy;exact A4p hb ((hk m hm).lt m y hy k hk2).1
 have h2:=h.2.2;rw[A4z] at h2 ⊢;refine⟨λy hy2=>?_,List.pairwise_append.2 ⟨h2.2,hp,λx hx2 y hy2=>Eb (λk hk2=>(hx x (A4h _ hx2) k hk2).2) (hy y hy2)⟩⟩;rcases List.mem_append.1 hy2 with hy2 | hy2
 ·exact h2.1 y hy2
 ·exact Eb (λk hk2=>(hx v (by simp) k hk2).2) (hy y hy2)
theorem Na.one {w:World} {base:Nat} {v:Value} {ars:List Au} (h:Na w base v ars) (i:Nat) (hi:i<ars.length):Hy w base ars[i]:=by
 refine⟨h.2.1 _ (A4k hi),?_⟩;have h2:=(List.pairwise_cons.1 h.2.2).2;unfold Fp at h2;rw[List.pairwise_flatten] at h2;exact h2.1 _ (List.mem_map.2 ⟨_,A4k hi,rfl⟩)
theorem Aqc {w:World} {base:Nat} {v:Value} {es:List Cm} (h1:w.ownsRow base 49 2 v es.length (Fq es)) (h2:∀m∈es,EOk w base m):Ju base w v (es.map Cm.elem):=by
 by_cases hz:es.length=0
 ·obtain⟨a,cap,rfl⟩:=Af h1
  exact⟨a,cap,by simp,λi hi=>absurd hi (by simp;omega)⟩
 ·obtain⟨g,cap,hv,hbase,hlt,_,hcell⟩:=Aw h1 (by omega)
  subst hv;refine⟨_,cap,by simp,λi hi=>⟨g,0,rfl,hbase,hlt,?_⟩⟩;have hi':i<es.length:=by simpa using hi
  obtain⟨a1,a2⟩:=Po es i hi';rw[List.getElem_map,A4m];exact⟨hcell _ _ a1,_,hcell _ _ a2,Ha.of_owns (h2 _ (A4k hi'))⟩
theorem AOk.from {w:World} {base:Nat} (m:Au) (h:AOk w base m):Ha base w m.net.av m.arm.net.one.args/\Rh base w m.net.kv m.arm.net.kids/\Ju base w m.cv m.arm.coils/\Pe base w m.kv m.arm.kids:=by
 revert h
 refine Jz (λm=>AOk w base m->Ha base w m.net.av m.arm.net.one.args/\Rh base w m.net.kv m.arm.net.kids/\Ju base w m.cv m.arm.coils/\Pe base w m.kv m.arm.kids) ?_ m;intro n cv cs kv kids ih h;rw[G8] at h;rw[Au.arm_eq];simp only at h ⊢;obtain⟨h1,⟨h2,h3⟩,h4,h5⟩:=h;obtain⟨f1,f2⟩:=MOk.from n h1;refine⟨f1,f2,Aqc h2 h3,?_⟩;by_cases hz:kids.length=0
 ·obtain⟨a,cap,rfl⟩:=Af h4
  exact⟨a,cap,by simp,λi hi=>absurd hi (by simp;omega)⟩
 ·obtain⟨g,cap,hv,hbase,hlt,_,hcell⟩:=Aw h4 (by omega)
  subst hv;refine⟨_,cap,by simp,λi hi=>⟨g,0,rfl,hbase,hlt,?_⟩⟩;have hi':i<kids.length:=by simpa using hi
  obtain⟨a1,a2,a3,a4,a5,a6⟩:=Ll kids i hi';obtain⟨g1,g2,g3,g4⟩:=ih _ (A4k hi') (h5 _ (A4k hi'));rw[List.getElem_map,Amq,Adq,A4m];have e:=Au.arm_eq kids[i];have e1:kids[i].arm.net.kind=kids[i].net.kind:=by rw[e];simp only;rw[Ah.net_eq]
  have e2:kids[i].arm.net.one.op=kids[i].net.op:=by rw[e];simp only;rw[Ah.net_eq]
  rw[e1,e2];exact⟨⟨hcell _ _ a1,hcell _ _ a2,⟨_,hcell _ _ a3,g1⟩,⟨_,hcell _ _ a4,g2⟩⟩,⟨_,hcell _ _ a5,g3⟩,⟨_,hcell _ _ a6,g4⟩⟩
def Wn (b:Nat):Nat->List (List Pl)->List Pl
 | _,[]=>[]
 | o,q::r=>(b,o)::(q++Wn b (o+2) r)
theorem Ac7 (b:Nat):∀(qs:List (List Pl)) (o i:Nat) (h:i<qs.length),Wn b o (qs.take (i+1))=Wn b o (qs.take i)++((b,o+i*2)::qs[i])
 | [],_,_,h=>by simp at h
 | q::r,o,0,_=>by simp[Wn]
 | q::r,o,i+1,h=>by
  have ih:=Ac7 b r (o+2) i (by simpa using h);rw[List.take_succ_cons,List.take_succ_cons,Wn,Wn,ih];have e:o+2+i*2=o+(i+1)*2:=by omega
  simp[e]
theorem Afg (b:Nat):∀(qs:List (List Pl)) (o i:Nat),i<=qs.length->Wn b o qs=Wn b o (qs.take i)++Wn b (o+i*2) (qs.drop i)
 | qs,o,0,_=>by simp[Wn]
 | [],_,i+1,h=>by simp at h
 | q::r,o,i+1,h=>by
  have ih:=Afg b r (o+2) i (by simpa using h);rw[List.take_succ_cons,List.drop_succ_cons,Wn,Wn,ih];have e:o+2+i*2=o+(i+1)*2:=by omega
  simp[e]
theorem Ayh (b:Nat):∀(qs:List (List Pl)) (o:Nat),qs.length<=(Wn b o qs).length:=by
 intro qs;induction qs with
 | nil=>intro o;simp
 | cons q r ih=>intro o;have:=ih (o+2);simp[Wn];omega
theorem Abg (b:Nat):∀(qs:List (List Pl)) (o:Nat) (p:Pl),p∈Wn b o qs->(∃i,i<qs.length/\p=(b,o+i*2))\/∃q∈qs,p∈q
 | [],_,p,h=>by simp[Wn] at h
 | q::r,o,p,h=>by
  rw[Wn] at h;simp only[A4y,A4q] at h;rcases h with h | h | h
  ·exact .inl ⟨0,by simp,by simpa using h⟩
  ·exact .inr ⟨q,by simp,h⟩
  ·rcases Abg b r (o+2) p h with⟨i,hi,hp⟩ | ⟨q',hq',hp⟩
   ·refine .inl ⟨i+1,by simp;omega,?_⟩
    have e:o+2+i*2=o+(i+1)*2:=by omega
    rwa [e] at hp
   ·exact .inr ⟨q',A4h _ hq',hp⟩
theorem Afh (b:Nat):∀(qs:List (List Pl)) (o:Nat),(∀q∈qs,q.Nodup/\∀p∈q,p.1≠b)->qs.Pairwise (λq r=>∀p∈q,p∉r)->(Wn b o qs).Nodup
 | [],_,_,_=>List.nodup_nil
 | q::r,o,h1,h2=>by
  have ih:=Afh b r (o+2) (λx hx=>h1 x (A4h _ hx)) (List.pairwise_cons.1 h2).2;obtain⟨hq1,hq2⟩:=h1 q (by simp);have hr:∀p∈Wn b (o+2) r,p≠(b,o)/\p∉q:=by
   intro p hp;rcases Abg b r (o+2) p hp with⟨i,_,hp⟩ | ⟨x,hx,hp⟩
   ·subst hp
    refine⟨λe=>?_,λe=>hq2 _ e rfl⟩;have:=(Prod.mk.inj e).2;omega
   ·have hx2:=(h1 x (A4h _ hx)).2 p hp
    exact⟨λe=>hx2 (by rw[e]),λe=>(List.pairwise_cons.1 h2).1 x hx p e hp⟩
  rw[Wn,List.nodup_cons,A5e];refine⟨λh=>?_,hq1,ih,λa ha c hc e=>?_⟩
  ·rcases List.mem_append.1 h with h | h
   ·exact hq2 _ h rfl
   ·exact(hr _ h).1 rfl
  ·subst e;exact(hr _ hc).2 ha
def Cm.dps (m:Cm):List Pl:=Iu (vb m.av) m.ds.length
def ePs (v:Value) (es:List Cm):List Pl:=Wn (vb v) 0 (es.map Cm.dps)
def ESh (Q:Pl->Prop) (w:World) (v:Value) (es:List Cm):Prop:=(∃a cap,v=.slice a es.length cap/\(0<es.length->a=some ⟨vb v,0,none⟩))/\
 ∀i (h:i<es.length),vb v<w.heap.size/\Q (vb v,i*2+1)/\w.cell? ⟨vb v,i*2+1,none⟩=some es[i].av/\Ri es[i].av es[i].dps
theorem ESh.map {Q:Pl->Prop} {w w':World} {v:Value} {es:List Cm} (hs:w.heap.size<=w'.heap.size) (hc:∀b o,b<w.heap.size->Q (b,o)->w'.cell? ⟨b,o,none⟩=w.cell? ⟨b,o,none⟩) (h:ESh Q w v es):ESh Q w' v es:=
 ⟨h.1,λi hi=>by
  obtain⟨c1,c2,c3,c4⟩:=h.2 i hi;exact⟨A4c c1 hs,c2,(hc _ _ c1 c2).trans c3,c4⟩⟩
theorem Aky (Q:Pl->Prop) (v:Value) (es:List Cm) (k:Int) (w:World) (hsh:ESh Q w v es) (hi:Gf w (ePs v es)) (hnd:(ePs v es).Nodup) (hq:∀p∈ePs v es,¬Q p) (hk0:0<=k) (hkl:k+(ePs v es).length<=4611686018427387904):
  Calls Tryz.prog 27 #[v, .int .i64 k] w λe w'=>e=.returned (.int .i64 (k+(ePs v es).length))/\Dh w w' (ePs v es) k:=by
 obtain⟨⟨a,cap,hv,ha⟩,hcs⟩:=hsh;obtain⟨b,hb⟩:∃b,b=vb v:=⟨_,rfl⟩
 obtain⟨qs,hqs⟩:∃qs,qs=es.map Cm.dps:=⟨_,rfl⟩
 have hrps:ePs v es=Wn b 0 qs:=by rw[hb,hqs];rfl
 rw[hrps] at hi hnd hq hkl ⊢;rw[<-hb] at ha hcs;subst hv;clear hb hrps;obtain⟨n,hn⟩:∃n,n=es.length:=⟨_,rfl⟩
 have HN:=hid hn;have HQL:Hid (qs.length=es.length):=by show _=_;rw[hqs];simp
 have HQG:Hid (∀i (h:i<qs.length) (h':i<es.length),qs[i]=es[i].dps):=by
  intro i h h';subst hqs;rw[List.getElem_map]
 have HI:=hid hi;have HND:=hid hnd;have HKL:=hid hkl;have HQ:=hid hq;have HCS:=hid hcs;have HA:Hid (0<n->a=some ⟨b,0,none⟩):=by rw[hn];exact ha
 have hnb:n<=4611686018427387904:=by
  have h3:=Ayh b qs 0;have:=HQL.out
  omega
 rw[<-hn];clear hi hnd hkl ha hn hcs hq hqs;go_enter Tryz.func27,Tryz.ntmps27
 go_wp2
 go_loopw [1,5] (λkv iv wr=>∃(i:Nat) (L:Nat),i<=n/\L=(Wn b 0 (qs.take i)).length/\kv=.int .i64 (k+L)/\iv=.int .i64 i/\Dh w wr (Wn b 0 (qs.take i)) k) (λ_ iv _=>n - (intOf iv).toNat)
 case atStart=>exact⟨0,0,by omega,by simp[Wn],by simp,rfl,by simpa[Wn] using Dh.of_below (Below.refl _ _)⟩
 case round=>
  obtain⟨i,L,hi,hL,rfl,rfl,hm⟩:=hrel;have HM:=hid hm;have HL:=hid hL;clear hm hL;by_cases hlt:i<n
  ·have hlk:i<es.length:=by have:=HN.out;omega
   have hlq:i<qs.length:=by have:=HQL.out;omega
   obtain rfl:=HA.out (by omega);obtain⟨hbz,hQ2,hav,hsD0⟩:=HCS.out i hlk;have hspl:Wn b 0 qs=Wn b 0 (qs.take i)++(((b,0+i*2)::qs[i])++Wn b (0+(i+1)*2) (qs.drop (i+1))):=by
    rw[Afg b qs 0 (i+1) (by omega),Ac7 b qs 0 i hlq,A41]
   have HSN:=hid (Ac7 b qs 0 i hlq);rw[HQG.out i hlq hlk] at hspl HSN;obtain⟨x,hx⟩:∃x,x=es[i]:=⟨_,rfl⟩
   rw[<-hx] at hspl HSN hav hsD0;have hI:=HI.out;have hN:=HND.out;have hK:=HKL.out;have hQp:=HQ.out;rw[hspl] at hI hN hK hQp;obtain⟨A,hA⟩:∃A,A=Wn b 0 (qs.take i):=⟨_,rfl⟩
   obtain⟨Z,hZ⟩:∃Z,Z=Wn b (0+(i+1)*2) (qs.drop (i+1)):=⟨_,rfl⟩
   rw[<-hA] at hI hN hK HM HL HSN hQp;rw[<-hZ] at hI hN hK hQp;rw[A4m] at hI hN hK hQp HSN;obtain⟨P,hP⟩:∃P:List Pl,P=[(b,i*2)]:=⟨_,rfl⟩
   obtain⟨D,hD⟩:∃D,D=x.dps:=⟨_,rfl⟩
   have hPq:((b,i*2)::x.dps)=P++D:=by rw[hP,hD];rfl
   rw[hPq] at hI hN hK HSN hQp;have hsD:Ri x.av D:=by rw[hD];exact hsD0
   clear hspl hA hZ hx hPq hD hsD0;have hNA:=List.nodup_append.1 hN;have hNP:=List.nodup_append.1 hNA.2.1;have hNQ:=List.nodup_append.1 hNP.1;have HDA:Hid (∀p∈A,p∉P++D):=λp hp hpq=>hNA.2.2 p hp p (A4o _ hpq) rfl
   have HDP:Hid (∀p∈P,p∉D):=λp hp hpq=>hNQ.2.2 p hp p hpq rfl
   have HND2:=hid hNQ.2.1;have hIw:=(hI.right.left).marked HM.out (λp hp hpa=>hNA.2.2 p hpa p (A4o _ hp) rfl);have hIP:=hIw.left;have HIP:=hid (λp hp=>(hIP p hp).1);have HID:=hid hIw.right;have HAL:=hid (λp hp=>(hI.left p hp).1);have hQA:=λp hp=>hQp p (A4o _ hp)
   have hc2:wr.cell? ⟨b,i*2+1,none⟩=some x.av:=(HM.out.2.1 (b,i*2+1) hbz (λh=>hQA _ h hQ2)).trans hav;have hLn:=HL.out;have hPl:P.length=1:=by rw[hP];rfl
   simp only[A4d] at hK;have hq1:D.length<=4611686018427387904:=by omega
   have hk2:k+L+1<=4611686018427387904:=by omega
   have HC:=hid (λW hW=>V7 x.av D (k+L+1) W hsD hW HND2.out (by omega) hk2 hq1);obtain⟨hb0,⟨n0,c0⟩,f0⟩:b<wr.heap.size/\(∃n,wr.cell? ⟨b,i*2,none⟩=some (.int .i64 n))/\wr.frozen? ⟨b,i*2,none⟩=false:=hIP (b,i*2) (by rw[hP];simp);have HMP:Hid (Dh wr (wr.setCell ⟨b,i*2,none⟩ (.int .i64 (k+L))) P (k+L)):=by rw[hP];exact Dh.one (k+L) c0
   have HPL:=hid hPl;obtain⟨xav,hxav⟩:∃v,v=x.av:=⟨_,rfl⟩
   rw[<-hxav] at hc2 HC hsD;obtain⟨a',n',cap',rfl,hz1,hz2⟩:=hsD;clear hz1 hz2 hI hN hK hNA hNP hNQ hIw hIP hav hP hLn hQA hQp hQ2 hxav;have w1:IntKind.i64.wrap (k+(L:Int)+1)=k+L+1:=by rw[IntKind.wrap_i64];omega
   go_wp2_with (go_at_call 25;refine(HC.out _ (HID.out.marked HMP.out (λp hp hpp=>HDP.out p hpp hp))).mono ?_;rintro e w3 ⟨rfl,hm3⟩)
   refine⟨⟨i+1,L+1+D.length,by omega,?_,?_,by go_num,?_⟩,by simp[intOf];omega⟩
   ·rw[HSN.out,A4d,A4d,HPL.out,<-HL.out];omega
   ·congr 1;omega
   ·rw[HSN.out]
    refine Dh.append HM.out ?_ HAL.out HDA.out;rw[<-HL.out];refine Dh.append HMP.out ?_ HIP.out HDP.out;rw[HPL.out];exact hm3
  ·obtain rfl:i=n:=by omega
   go_wp2
   go_ret;have hT:qs.take i=qs:=A48 (by have:=HN.out;have:=HQL.out;omega);refine⟨D7 (by rw[HL.out,hT]),?_⟩;have:=HM.out
   rwa [hT] at this
def Au.inner:Au->List Pl
 | ⟨n,cv,cs,kv,kids⟩=>n.dps++(n.rps++(ePs cv cs++Gi 6 (vb kv) 0 (kids.map Au.inner)))
def Au.kps (m:Au):List Pl:=Gi 6 (vb m.kv) 0 (m.kids.map Au.inner)
theorem Au.inner_eq (m:Au):m.inner=m.net.dps++(m.net.rps++(ePs m.cv m.coils++m.kps)):=by obtain⟨n,cv,cs,kv,kids⟩:=m;rw[Au.inner];rfl
def ASh (Q:Pl->Prop) (w:World):Au->Prop
 | ⟨n,cv,cs,kv,kids⟩=>MSh Q w n/\ESh Q w cv cs/\(∃a cap,kv=.slice a kids.length cap/\(0<kids.length->a=some ⟨vb kv,0,none⟩))/\
  (∀i (h:i<kids.length),vb kv<w.heap.size/\(Q (vb kv,i*6+2)/\Q (vb kv,i*6+3)/\Q (vb kv,i*6+4)/\Q (vb kv,i*6+5))/\w.cell? ⟨vb kv,i*6+2,none⟩=some kids[i].net.av/\w.cell? ⟨vb kv,i*6+3,none⟩=some kids[i].net.kv/\w.cell? ⟨vb kv,i*6+4,none⟩=some kids[i].cv/\w.cell? ⟨vb kv,i*6+5,none⟩=some kids[i].kv)/\∀p∈kids.map (ASh Q w),p
theorem Yj (Q:Pl->Prop) (w:World) (m:Au):ASh Q w m↔MSh Q w m.net/\ESh Q w m.cv m.coils/\(∃a cap,m.kv=.slice a m.kids.length cap/\(0<m.kids.length->a=some ⟨vb m.kv,0,none⟩))/\
  (∀i (h:i<m.kids.length),vb m.kv<w.heap.size/\(Q (vb m.kv,i*6+2)/\Q (vb m.kv,i*6+3)/\Q (vb m.kv,i*6+4)/\Q (vb m.kv,i*6+5))/\w.cell? ⟨vb m.kv,i*6+2,none⟩=some m.kids[i].net.av/\w.cell? ⟨vb m.kv,i*6+3,none⟩=some m.kids[i].net.kv/\w.cell? ⟨vb m.kv,i*6+4,none⟩=some m.kids[i].cv/\w.cell? ⟨vb m.kv,i*6+5,none⟩=some m.kids[i].kv)/\∀x∈m.kids,ASh Q w x:=by
 obtain⟨n,cv,cs,kv,kids⟩:=m;rw[ASh,Stil.all_map]
theorem ASh.map {Q:Pl->Prop} {w w':World} (hs:w.heap.size<=w'.heap.size) (hc:∀b o,b<w.heap.size->Q (b,o)->w'.cell? ⟨b,o,none⟩=w.cell? ⟨b,o,none⟩) (m:Au):ASh Q w m->ASh Q w' m:=by
 refine Jz (λm=>ASh Q w m->ASh Q w' m) ?_ m;intro n cv cs kv kids ih h;rw[Yj] at h ⊢;obtain⟨h0,h1,h2,h3,h4⟩:=h;refine⟨MSh.map hs hc _ h0,h1.map hs hc,h2,λi hi=>?_,λx hx=>ih x hx (h4 x hx)⟩;obtain⟨c1,⟨q2,q3,q4,q5⟩,c2,c3,c4,c5⟩:=h3 i hi;exact⟨A4c c1 hs,⟨q2,q3,q4,q5⟩,(hc _ _ c1 q2).trans c2,(hc _ _ c1 q3).trans c3,(hc _ _ c1 q4).trans c4,(hc _ _ c1 q5).trans c5⟩
theorem ASh.below {Q:Pl->Prop} {w w':World} {m:Au} (h:ASh Q w m) (hb:Below w.heap.size w w'):ASh Q w' m:=ASh.map hb.size (λb o hl _=>hb.cell (p:=⟨b,o,none⟩) hl) m h
theorem ASh.marked {Q:Pl->Prop} {w w':World} {m:Au} {ps:List Pl} {k:Int} (h:ASh Q w m) (hm:Dh w w' ps k) (hq:∀p∈ps,¬Q p):ASh Q w' m:=ASh.map hm.1 (λb o hl hQ=>hm.2.1 (b,o) hl (λhp=>hq _ hp hQ)) m h
theorem Ao5 (Q:Pl->Prop) (m:Au):∀(k:Int) (w:World),ASh Q w m->Gf w m.kps->m.kps.Nodup->(∀p∈m.kps,¬Q p)->0<=k->k+m.kps.length<=4611686018427387904->
  Calls Tryz.prog 11 #[m.kv, .int .i64 k] w λe w'=>e=.returned (.int .i64 (k+m.kps.length))/\Dh w w' m.kps k:=by
 refine Jz (λm=>∀(k:Int) (w:World),ASh Q w m->Gf w m.kps->m.kps.Nodup->(∀p∈m.kps,¬Q p)->0<=k->k+m.kps.length<=4611686018427387904->
  Calls Tryz.prog 11 #[m.kv, .int .i64 k] w λe w'=>e=.returned (.int .i64 (k+m.kps.length))/\Dh w w' m.kps k) ?_ m
 intro nt cv0 cs0 kv0 kids ih k w hsh hi hnd hq hk0 hkl;have IH:=hid ih;rw[Yj] at hsh;obtain⟨_,_,⟨a,cap,hkv,ha⟩,hcs,hks⟩:=hsh;simp only at hkv ha hcs hks;obtain⟨b,hb⟩:∃b,b=vb kv0:=⟨_,rfl⟩
 obtain⟨qs,hqs⟩:∃qs,qs=kids.map Au.inner:=⟨_,rfl⟩
 have hrps:(Au.mk nt cv0 cs0 kv0 kids).kps=Gi 6 b 0 qs:=by rw[hb,hqs];rfl
 rw[hrps] at hi hnd hq hkl ⊢;rw[<-hb] at ha hcs;simp only;subst hkv;clear hb hrps ih;obtain⟨n,hn⟩:∃n,n=kids.length:=⟨_,rfl⟩
 have HN:=hid hn;have HQL:Hid (qs.length=kids.length):=by show _=_;rw[hqs];simp
 have HQG:Hid (∀i (h:i<qs.length) (h':i<kids.length),qs[i]=kids[i].net.dps++(kids[i].net.rps++(ePs kids[i].cv kids[i].coils++kids[i].kps))):=by
  intro i h h';subst hqs;rw[List.getElem_map,Au.inner_eq]
 have HI:=hid hi;have HND:=hid hnd;have HKL:=hid hkl;have HQ:=hid hq;have HCS:=hid hcs;have HKS:=hid hks;have HA:Hid (0<n->a=some ⟨b,0,none⟩):=by rw[hn];exact ha
 have hnb:n<=4611686018427387904:=by
  have h3:=Ahp 6 b qs 0;have:=HQL.out
  omega
 rw[<-hn];clear hi hnd hkl ha hn hcs hks hq hqs;go_enter Tryz.func11,Tryz.ntmps11
 go_wp2
 go_loopw [1,5] (λkv iv wr=>∃(i:Nat) (L:Nat),i<=n/\L=(Gi 6 b 0 (qs.take i)).length/\kv=.int .i64 (k+L)/\iv=.int .i64 i/\Dh w wr (Gi 6 b 0 (qs.take i)) k) (λ_ iv _=>n - (intOf iv).toNat)
 case atStart=>exact⟨0,0,by omega,by simp[Gi],by simp,rfl,by simpa[Gi] using Dh.of_below (Below.refl _ _)⟩
 case round=>
  obtain⟨i,L,hi,hL,rfl,rfl,hm⟩:=hrel;have HM:=hid hm;have HL:=hid hL;clear hm hL;by_cases hlt:i<n
  ·have hlk:i<kids.length:=by have:=HN.out;omega
   have hlq:i<qs.length:=by have:=HQL.out;omega
   obtain rfl:=HA.out (by omega);obtain⟨hbz,⟨hQ2,hQ3,hQ4,hQ5⟩,hav,hnv,hcv,hkv⟩:=HCS.out i hlk;have hshx:=HKS.out _ (A4k hlk);have hspl:Gi 6 b 0 qs=Gi 6 b 0 (qs.take i)++(((b,0+i*6)::(b,0+i*6+1)::qs[i])++Gi 6 b (0+(i+1)*6) (qs.drop (i+1))):=by
    rw[P5 6 b qs 0 (i+1) (by omega),Rt 6 b qs 0 i hlq,A41]
   have HSN:=hid (Rt 6 b qs 0 i hlq);rw[HQG.out i hlq hlk] at hspl HSN;have IHX:=IH.out _ (A4k hlk);obtain⟨x,hx⟩:∃x,x=kids[i]:=⟨_,rfl⟩
   rw[<-hx] at hspl HSN hav hnv hcv hkv hshx IHX;have hI:=HI.out;have hN:=HND.out;have hK:=HKL.out;have hQp:=HQ.out;rw[hspl] at hI hN hK hQp;obtain⟨A,hA⟩:∃A,A=Gi 6 b 0 (qs.take i):=⟨_,rfl⟩
   obtain⟨Z,hZ⟩:∃Z,Z=Gi 6 b (0+(i+1)*6) (qs.drop (i+1)):=⟨_,rfl⟩
   rw[<-hA] at hI hN hK HM HL HSN hQp;rw[<-hZ] at hI hN hK hQp;rw[A4m] at hI hN hK hQp HSN;obtain⟨P,hP⟩:∃P:List Pl,P=[(b,i*6),(b,i*6+1)]:=⟨_,rfl⟩
   obtain⟨D,hD⟩:∃D,D=x.net.dps:=⟨_,rfl⟩
   obtain⟨R,hR⟩:∃R,R=x.net.rps:=⟨_,rfl⟩
   obtain⟨E,hE⟩:∃E,E=ePs x.cv x.coils:=⟨_,rfl⟩
   obtain⟨K,hKd⟩:∃K,K=x.kps:=⟨_,rfl⟩
   have hPq:((b,i*6)::(b,i*6+1)::(x.net.dps++(x.net.rps++(ePs x.cv x.coils++x.kps))))=P++(D++(R++(E++K))):=by rw[hP,hD,hR,hE,hKd];rfl
   rw[hPq] at hI hN hK HSN hQp;have hshx2:=(Yj Q w x).1 hshx;have hsD:Ri x.net.av D:=by rw[hD];exact((Vw Q w x.net).1 hshx2.1).1
   have hsN:∃a n cap,x.net.kv=.slice a n cap:=by
    obtain⟨a1,c1,h1,_⟩:=((Vw Q w x.net).1 hshx2.1).2.1;exact⟨a1,_,c1,h1⟩
   have hsE:∃a n cap,x.cv=.slice a n cap:=by
    obtain⟨a1,c1,h1,_⟩:=hshx2.2.1.1;exact⟨a1,_,c1,h1⟩
   have hsK:∃a n cap,x.kv=.slice a n cap:=by
    obtain⟨a1,c1,h1,_⟩:=hshx2.2.2.1;exact⟨a1,_,c1,h1⟩
   clear hspl hA hZ hx hPq hshx2;have hNA:=List.nodup_append.1 hN;have hNP:=List.nodup_append.1 hNA.2.1;have hNQ:=List.nodup_append.1 hNP.1;have hND:=List.nodup_append.1 hNQ.2.1;have hNR:=List.nodup_append.1 hND.2.1;have hNE:=List.nodup_append.1 hNR.2.1;have HDA:Hid (∀p∈A,p∉P++(D++(R++(E++K)))):=λp hp hpq=>hNA.2.2 p hp p (A4o _ hpq) rfl
   have HDP:Hid (∀p∈P,p∉D++(R++(E++K))):=λp hp hpq=>hNQ.2.2 p hp p hpq rfl
   have HDD:Hid (∀p∈D,p∉R++(E++K)):=λp hp hpq=>hND.2.2 p hp p hpq rfl
   have HDR:Hid (∀p∈R,p∉E++K):=λp hp hpq=>hNR.2.2 p hp p hpq rfl
   have HDE:Hid (∀p∈E,p∉K):=λp hp hpq=>hNE.2.2 p hp p hpq rfl
   have hIw:=(hI.right.left).marked HM.out (λp hp hpa=>hNA.2.2 p hpa p (A4o _ hp) rfl);have hIP:=hIw.left;have HIP:=hid (λp hp=>(hIP p hp).1);have HID:=hid hIw.right.left;have HIR:=hid hIw.right.right.left;have HIE:=hid hIw.right.right.right.left;have HIK:=hid hIw.right.right.right.right;have HAL:=hid (λp hp=>(hI.left p hp).1);have hQA:=λp hp=>hQp p (A4o _ hp)
   have hQin:=λp hp=>hQp p (A4l _ (A4o _ hp))
   have HQP:=hid (λp hp=>hQin p (A4o _ hp));have HQD:=hid (λp hp=>hQin p (A4l _ (A4o _ hp)));have HQR:=hid (λp hp=>hQin p (A4l _ (A4l _ (A4o _ hp))));have HQE:=hid (λp hp=>hQin p (A4l _ (A4l _ (A4l _ (A4o _ hp)))));have hQK:=λp hp=>hQin p (A4l _ (A4l _ (A4l _ (A4l _ hp))))
   have hc2:wr.cell? ⟨b,i*6+2,none⟩=some x.net.av:=(HM.out.2.1 (b,i*6+2) hbz (λh=>hQA _ h hQ2)).trans hav;have hc3:wr.cell? ⟨b,i*6+3,none⟩=some x.net.kv:=(HM.out.2.1 (b,i*6+3) hbz (λh=>hQA _ h hQ3)).trans hnv;have hc4:wr.cell? ⟨b,i*6+4,none⟩=some x.cv:=(HM.out.2.1 (b,i*6+4) hbz (λh=>hQA _ h hQ4)).trans hcv;have hc5:wr.cell? ⟨b,i*6+5,none⟩=some x.kv:=(HM.out.2.1 (b,i*6+5) hbz (λh=>hQA _ h hQ5)).trans hkv;have HSX:=hid (hshx.marked HM.out hQA);have hLn:=HL.out;have hPl:P.length=2:=by rw[hP];rfl
   simp only[A4d] at hK;have HC:=hid (λW hW=>V7 x.net.av D (k+L+2) W hsD hW hND.1 (by omega) (by omega) (by omega));have HC2:Hid (∀W,ASh Q W x->Gf W R->Calls Tryz.prog 26 #[x.net.kv, .int .i64 (k+L+2+D.length)] W λe w'=>e=.returned (.int .i64 (k+L+2+D.length+R.length))/\Dh W w' R (k+L+2+D.length)):=by
    intro W h1 h2;rw[hR] at h2 ⊢;exact Ao4 Q x.net _ W ((Yj Q W x).1 h1).1 h2 (by rw[<-hR];exact hNR.1) (by rw[<-hR];exact HQR.out) (by omega) (by rw[<-hR];omega)
   have HC3:Hid (∀W,ASh Q W x->Gf W E->Calls Tryz.prog 27 #[x.cv, .int .i64 (k+L+2+D.length+R.length)] W λe w'=>e=.returned (.int .i64 (k+L+2+D.length+R.length+E.length))/\Dh W w' E (k+L+2+D.length+R.length)):=by
    intro W h1 h2;rw[hE] at h2 ⊢;exact Aky Q x.cv x.coils _ W ((Yj Q W x).1 h1).2.1 h2 (by rw[<-hE];exact hNE.1) (by rw[<-hE];exact HQE.out) (by omega) (by rw[<-hE];omega)
   have HC4:Hid (∀W,ASh Q W x->Gf W K->Calls Tryz.prog 11 #[x.kv, .int .i64 (k+L+2+D.length+R.length+E.length)] W λe w'=>e=.returned (.int .i64 (k+L+2+D.length+R.length+E.length+K.length))/\Dh W w' K (k+L+2+D.length+R.length+E.length)):=by
    intro W h1 h2;rw[hKd] at h2 ⊢;exact IHX _ W h1 h2 (by rw[<-hKd];exact hNE.2.1) (by rw[<-hKd];exact hQK) (by omega) (by rw[<-hKd];omega)
   obtain⟨⟨hb0,⟨n0,c0⟩,f0⟩,⟨_,⟨n1,c1⟩,f1⟩⟩:(b<wr.heap.size/\(∃n,wr.cell? ⟨b,i*6,none⟩=some (.int .i64 n))/\wr.frozen? ⟨b,i*6,none⟩=false)/\(b<wr.heap.size/\(∃n,wr.cell? ⟨b,i*6+1,none⟩=some (.int .i64 n))/\wr.frozen? ⟨b,i*6+1,none⟩=false):=
    ⟨hIP (b,i*6) (by rw[hP];simp),hIP (b,i*6+1) (by rw[hP];simp)⟩
   have HMP:Hid (Dh wr ((wr.setCell ⟨b,i*6,none⟩ (.int .i64 (k+L))).setCell ⟨b,i*6+1,none⟩ (.int .i64 (k+L+1))) P (k+L)):=by rw[hP];exact Dh.two (k+L) hb0 c0 c1
   have HPL:=hid hPl;have HQH:Hid (Q (b,i*6+3)/\Q (b,i*6+4)/\Q (b,i*6+5)):=⟨hQ3,hQ4,hQ5⟩
   have hkb:k+L+2<=4611686018427387904:=by omega
   obtain⟨xav,hxav⟩:∃v,v=x.net.av:=⟨_,rfl⟩
   obtain⟨xnv,hxnv⟩:∃v,v=x.net.kv:=⟨_,rfl⟩
   obtain⟨xcv,hxcv⟩:∃v,v=x.cv:=⟨_,rfl⟩
   obtain⟨xkv,hxkv⟩:∃v,v=x.kv:=⟨_,rfl⟩
   rw[<-hxav] at hc2 HC hsD;rw[<-hxnv] at hc3 HC2 hsN;rw[<-hxcv] at hc4 HC3 hsE;rw[<-hxkv] at hc5 HC4 hsK;obtain⟨a',n',cap',rfl,hz1,hz2⟩:=hsD;obtain⟨aN,nN,cN,rfl⟩:=hsN;obtain⟨aE,nE,cE,rfl⟩:=hsE;obtain⟨aK,nK,cK,rfl⟩:=hsK;clear hz1 hz2 hI hN hK hNA hNP hNQ hND hNR hNE hIw hIP hav hnv hcv hkv hP hLn hQA hQK hQin hQp hshx IHX hQ2 hQ3 hQ4 hQ5 hxav hxnv hxcv hxkv hD hR hE hKd;have w1:IntKind.i64.wrap (k+(L:Int)+1)=k+L+1:=by rw[IntKind.wrap_i64];omega
   have w2:IntKind.i64.wrap (k+(L:Int)+1+1)=k+L+2:=by rw[IntKind.wrap_i64];omega
   go_wp2_with (go_at_call 25;refine(HC.out _ (HID.out.marked HMP.out (λp hp hpp=>HDP.out p hpp (A4o _ hp)))).mono ?_;rintro e w3 ⟨rfl,hm3⟩;have hb3:=A4c (by simpa using hb0) hm3.1;have g3:w3.cell? ⟨b,i*6+3,none⟩=some (.slice aN nN cN):=(hm3.2.1 (b,i*6+3) (by simpa using hb0) (λh=>HQD.out _ h HQH.out.1)).trans ((Bf (by omega)).trans ((Bf (by omega)).trans hc3));have g4:w3.cell? ⟨b,i*6+4,none⟩=some (.slice aE nE cE):=(hm3.2.1 (b,i*6+4) (by simpa using hb0) (λh=>HQD.out _ h HQH.out.2.1)).trans ((Bf (by omega)).trans ((Bf (by omega)).trans hc4));have g5:w3.cell? ⟨b,i*6+5,none⟩=some (.slice aK nK cK):=(hm3.2.1 (b,i*6+5) (by simpa using hb0) (λh=>HQD.out _ h HQH.out.2.2)).trans ((Bf (by omega)).trans ((Bf (by omega)).trans hc5)))
   have HS3:=hid ((HSX.out.marked HMP.out HQP.out).marked hm3 HQD.out);have HR3:=hid ((HIR.out.marked HMP.out (λp hp hpp=>HDP.out p hpp (A4l _ (A4o _ hp)))).marked hm3 (λp hp hpd=>HDD.out p hpd (A4o _ hp)));have HE3:=hid ((HIE.out.marked HMP.out (λp hp hpp=>HDP.out p hpp (A4l _ (A4l _ (A4o _ hp))))).marked hm3 (λp hp hpd=>HDD.out p hpd (A4l _ (A4o _ hp))));have HK3:=hid ((HIK.out.marked HMP.out (λp hp hpp=>HDP.out p hpp (A4l _ (A4l _ (A4l _ hp))))).marked hm3 (λp hp hpd=>HDD.out p hpd (A4l _ (A4l _ hp))));have HM3:Hid (Dh w w3 (A++(P++D)) k):=by
    refine Dh.append HM.out ?_ HAL.out (λp hp hq=>HDA.out p hp (by rcases List.mem_append.1 hq with h | h;exact A4o _ h;exact A4l _ (A4o _ h)));rw[<-HL.out];refine Dh.append HMP.out ?_ HIP.out (λp hp hq=>HDP.out p hp (A4o _ hq));rw[HPL.out];exact hm3
   have HID3:=hid (λp hp=>A4c (HID.out p hp).1 (A4p HMP.out.1 hm3.1));clear hm3 hc2 hc3 hc4 hc5 c0 c1 f0 f1
   go_wp2_with (go_at_call 26;refine(HC2.out _ HS3.out HR3.out).mono ?_;rintro e w4 ⟨rfl,hm4⟩;have hb4:=A4c hb3 hm4.1;have g4':w4.cell? ⟨b,i*6+4,none⟩=some (.slice aE nE cE):=(hm4.2.1 (b,i*6+4) hb3 (λh=>HQR.out _ h HQH.out.2.1)).trans g4;have g5':w4.cell? ⟨b,i*6+5,none⟩=some (.slice aK nK cK):=(hm4.2.1 (b,i*6+5) hb3 (λh=>HQR.out _ h HQH.out.2.2)).trans g5)
   have HS4:=hid (HS3.out.marked hm4 HQR.out);have HE4:=hid (HE3.out.marked hm4 (λp hp hpd=>HDR.out p hpd (A4o _ hp)));have HK4:=hid (HK3.out.marked hm4 (λp hp hpd=>HDR.out p hpd (A4l _ hp)));have HM4:=hid hm4;clear hm4 g3 g4 g5
   go_wp2_with (go_at_call 27;refine(HC3.out _ HS4.out HE4.out).mono ?_;rintro e w5 ⟨rfl,hm5⟩;have hb5:=A4c hb4 hm5.1;have g5'':w5.cell? ⟨b,i*6+5,none⟩=some (.slice aK nK cK):=(hm5.2.1 (b,i*6+5) hb4 (λh=>HQE.out _ h HQH.out.2.2)).trans g5')
   have HS5:=hid (HS4.out.marked hm5 HQE.out);have HK5:=hid (HK4.out.marked hm5 (λp hp hpd=>HDE.out p hpd hp));have HM5:=hid hm5;clear hm5 g4' g5'
   go_wp2_with (go_at_call 11;refine(HC4.out _ HS5.out HK5.out).mono ?_;rintro e w6 ⟨rfl,hm6⟩)
   refine⟨⟨i+1,L+2+D.length+R.length+E.length+K.length,by omega,?_,?_,by go_num,?_⟩,by simp[intOf];omega⟩
   ·rw[HSN.out,A4d,A4d,A4d,A4d,A4d,HPL.out,<-HL.out];omega
   ·congr 1;omega
   ·have e1:A++(P++(D++(R++(E++K))))=(A++(P++D))++(R++(E++K)):=by simp
    rw[HSN.out,e1];have eL:k+((A++(P++D)).length:Int)=k+L+2+D.length:=by rw[A4d,A4d,HPL.out,<-HL.out];omega
    refine Dh.append HM3.out ?_ ?_ ?_
    ·rw[eL]
     refine Dh.append HM4.out ?_ (λp hp=>(HR3.out p hp).1) HDR.out;exact Dh.append HM5.out hm6 (λp hp=>(HE4.out p hp).1) HDE.out
    ·intro p hp
     rcases List.mem_append.1 hp with hp | hp
     ·exact HAL.out p hp
     ·have hz:wr.heap.size=w.heap.size\/w.heap.size<=wr.heap.size:=.inr HM.out.1
      rcases List.mem_append.1 hp with hp | hp
      ·exact(HI.out p (by rw[P5 6 b qs 0 (i+1) (by omega),HSN.out];exact A4o _ (A4l _ (A4o _ hp)))).1
      ·exact(HI.out p (by rw[P5 6 b qs 0 (i+1) (by omega),HSN.out];exact A4o _ (A4l _ (A4l _ (A4o _ hp))))).1
    ·intro p hp hq
     rcases List.mem_append.1 hp with hp | hp
     ·exact HDA.out p hp (A4l _ (A4l _ hq))
     ·rcases List.mem_append.1 hp with hp | hp
      ·exact HDP.out p hp (A4l _ hq)
      ·exact HDD.out p hp hq
  ·obtain rfl:i=n:=by omega
   go_wp2
   go_ret;have hT:qs.take i=qs:=A48 (by have:=HN.out;have:=HQL.out;omega);refine⟨D7 (by rw[HL.out,hT]),?_⟩;have:=HM.out
   rwa [hT] at this
def A2q (t o:Nat):Prop:=match t with
 | 0=>True
 | 1=>o % 4<2
 | 2=>o % 2=0
 | _=>o % 6<2
abbrev Tg:=Value × Nat
def Ah.tags:Ah->List Tg
 | ⟨_,_,_,av,kv,kids⟩=>(av,0)::(kv,1)::(kids.map Ah.tags).flatten
theorem Ah.tags_eq (m:Ah):m.tags=(m.av,0)::(m.kv,1)::(m.kids.map Ah.tags).flatten:=by obtain⟨k,op,ds,av,kv,kids⟩:=m;rw[Ah.tags]
theorem Ah.tags_vals (m:Ah):m.tags.map (·.1)=m.vals:=by
 refine Ir (λm=>m.tags.map (·.1)=m.vals) ?_ m;intro k op ds av kv kids ih;rw[Ah.tags_eq,Ah.vals_eq];simp only[A4v,List.map_flatten,List.map_map,Eh];congr 3;exact List.map_congr_left (λx hx=>ih x hx)
def Au.tags:Au->List Tg
 | ⟨n,cv,cs,kv,kids⟩=>n.tags++(((cv,2)::cs.map (λm=>(m.av,0)))++((kv,3)::(kids.map Au.tags).flatten))
theorem Au.tags_eq (m:Au):m.tags=m.net.tags++(((m.cv,2)::m.coils.map (λm=>(m.av,0)))++((m.kv,3)::(m.kids.map Au.tags).flatten)):=by obtain⟨n,cv,cs,kv,kids⟩:=m;rw[Au.tags]
theorem Au.tags_vals (m:Au):m.tags.map (·.1)=m.vals:=by
 refine Jz (λm=>m.tags.map (·.1)=m.vals) ?_ m;intro n cv cs kv kids ih;rw[Au.tags_eq,Au.vals_eq];simp only[A4r,A4v,List.map_flatten,List.map_map,Fp,Ah.tags_vals];congr 2
 ·congr 2
  exact List.map_congr_left (λx hx=>ih x hx)
theorem Ah.rows_tags (m:Ah):∀v∈m.rows,(v,1)∈m.tags:=by
 refine Ir (λm=>∀v∈m.rows,(v,1)∈m.tags) ?_ m;intro k op ds av kv kids ih v hv;rw[Ah.rows_eq] at hv;rw[Ah.tags_eq];rcases List.mem_cons.1 hv with hv | hv
 ·simp[hv]
 ·obtain⟨l,hl,hv⟩:=List.mem_flatten.1 hv
  obtain⟨x,hx,rfl⟩:=List.mem_map.1 hl;exact A4h _ (A4h _ (List.mem_flatten.2 ⟨_,List.mem_map.2 ⟨x,hx,rfl⟩,ih x hx v hv⟩))
def Qd (ts:List Tg) (p:Pl):Prop:=∃t∈ts,t.1.ownBlock=some p.1/\¬A2q t.2 p.2
def Ach (ts:List Tg) (p:Pl):Prop:=∃t∈ts,t.1.ownBlock=some p.1/\A2q t.2 p.2
theorem Aws {ts:List Tg} (h:(ts.map (·.1)).Pairwise Aside) {t u:Tg} (ht:t∈ts) (hu:u∈ts) {k:Nat} (h1:t.1.ownBlock=some k) (h2:u.1.ownBlock=some k):t=u:=by
 obtain⟨i,hi,rfl⟩:=List.getElem_of_mem ht;obtain⟨j,hj,rfl⟩:=List.getElem_of_mem hu;rw[List.pairwise_map] at h;have hp:=List.pairwise_iff_getElem.1 h;rcases Nat.lt_trichotomy i j with e | e | e
 ·exact((hp i j hi hj e).no h1 h2).elim
 ·subst e;rfl
 ·exact((hp j i hj hi e).no h2 h1).elim
theorem Apa {ts:List Tg} (h:(ts.map (·.1)).Pairwise Aside) {p:Pl} (h1:Ach ts p):¬Qd ts p:=by
 rintro⟨u,hu,hb,hn⟩;obtain⟨t,ht,hb2,hn2⟩:=h1;have e:=Aws h ht hu hb2 hb;rw[e] at hn2;exact hn hn2
theorem Ach.mono {ts us:List Tg} {p:Pl} (h:Ach ts p) (hs:∀t∈ts,t∈us):Ach us p:=by
 obtain⟨t,ht,h1⟩:=h;exact⟨t,hs t ht,h1⟩
theorem Qd.mono {ts us:List Tg} {p:Pl} (h:Qd ts p) (hs:∀t∈ts,t∈us):Qd us p:=by
 obtain⟨t,ht,h1⟩:=h;exact⟨t,hs t ht,h1⟩
theorem Ah.nums {w:World} {base:Nat} (m:Ah):MOk w base m->∀p∈m.inner,Ach m.tags p:=by
 refine Ir (λm=>MOk w base m->∀p∈m.inner,Ach m.tags p) ?_ m;intro k op ds av kv kids ih h p hp;obtain⟨hA,hK,hkids⟩:=(Hq _ _ _).1 h;simp only at hA hK hkids;rw[Ah.inner_eq] at hp;rw[Ah.tags_eq];rcases List.mem_append.1 hp with hp | hp
 ·exact⟨(av,0),by simp,((Lh hA).2.2 p hp).2,trivial⟩
 ·rcases Oa 4 _ _ 0 p hp with⟨i,hi,hp⟩ | ⟨q,hq,hp⟩
  ·have hi':i<kids.length:=by simpa using hi
   obtain⟨g,cap,hv,_⟩:=Aw hK (by omega);have hg:kv.ownBlock=some (vb kv):=by rw[hv];rfl
   refine⟨(kv,1),by simp,?_,?_⟩
   ·rcases hp with rfl | rfl<;>exact hg
   ·rcases hp with rfl | rfl
    ·show(0+i*4) % 4<2;omega
    ·show(0+i*4+1) % 4<2;omega
  ·obtain⟨x,hx,rfl⟩:=List.mem_map.1 hq
   exact(ih x hx (hkids x hx) p hp).mono (λt ht=>A4h _ (A4h _ (List.mem_flatten.2 ⟨_,List.mem_map.2 ⟨x,hx,rfl⟩,ht⟩)))
theorem Ai2 {w:World} {base:Nat} {v:Value} {es:List Cm} (h1:w.ownsRow base 49 2 v es.length (Fq es)) (h2:∀m∈es,EOk w base m):∀p∈ePs v es,Ach ((v,2)::es.map (λm=>(m.av,0))) p:=by
 intro p hp;rcases Abg _ _ 0 p hp with⟨i,hi,hp⟩ | ⟨q,hq,hp⟩
 ·have hi':i<es.length:=by simpa using hi
  obtain⟨g,cap,hv,_⟩:=Aw h1 (by omega);have hg:v.ownBlock=some (vb v):=by rw[hv];rfl
  subst hp;refine⟨(v,2),by simp,hg,?_⟩;show(0+i*2) % 2=0
  omega
 ·obtain⟨x,hx,rfl⟩:=List.mem_map.1 hq
  exact⟨(x.av,0),A4h _ (List.mem_map.2 ⟨x,hx,rfl⟩),((Lh (h2 x hx)).2.2 p hp).2,trivial⟩
theorem Au.nums {w:World} {base:Nat} (m:Au):AOk w base m->∀p∈m.inner,Ach m.tags p:=by
 refine Jz (λm=>AOk w base m->∀p∈m.inner,Ach m.tags p) ?_ m;intro n cv cs kv kids ih h p hp;obtain⟨hN,⟨hC,hCs⟩,hK,hkids⟩:=(G8 _ _ _).1 h;simp only at hN hC hCs hK hkids;rw[Au.inner_eq] at hp;rw[Au.tags_eq];simp only at hp ⊢;rw[<-A41,<-Ah.inner_eq] at hp;rcases List.mem_append.1 hp with hp | hp
 ·exact(n.nums hN p hp).mono (λt ht=>A4o _ ht)
 rcases List.mem_append.1 hp with hp | hp
 ·exact(Ai2 hC hCs p hp).mono (λt ht=>A4l _ (A4o _ ht))
 ·rcases Oa 6 _ _ 0 p hp with⟨i,hi,hp⟩ | ⟨q,hq,hp⟩
  ·have hi':i<kids.length:=by simpa using hi
   obtain⟨g,cap,hv,_⟩:=Aw hK (by omega);have hg:kv.ownBlock=some (vb kv):=by rw[hv];rfl
   refine⟨(kv,3),by simp,?_,?_⟩
   ·rcases hp with rfl | rfl<;>exact hg
   ·rcases hp with rfl | rfl
    ·show(0+i*6) % 6<2;omega
    ·show(0+i*6+1) % 6<2;omega
  ·obtain⟨x,hx,rfl⟩:=List.mem_map.1 hq
   exact(ih x hx (hkids x hx) p hp).mono (λt ht=>A4l _ (A4l _ (A4h _ (List.mem_flatten.2 ⟨_,List.mem_map.2 ⟨x,hx,rfl⟩,ht⟩))))
theorem ASh.mono {Q Q':Pl->Prop} {w:World} (hq:∀p,Q p->Q' p) (m:Au):ASh Q w m->ASh Q' w m:=by
 refine Jz (λm=>ASh Q w m->ASh Q' w m) ?_ m;intro n cv cs kv kids ih h;rw[Yj] at h ⊢;obtain⟨h0,⟨e1,e2⟩,h2,h3,h4⟩:=h;refine⟨MSh.mono hq _ h0,⟨e1,λi hi=>?_⟩,h2,λi hi=>?_,λx hx=>ih x hx (h4 x hx)⟩
 ·obtain⟨c1,c2,c3,c4⟩:=e2 i hi
  exact⟨c1,hq _ c2,c3,c4⟩
 ·obtain⟨c1,⟨q2,q3,q4,q5⟩,c2⟩:=h3 i hi
  exact⟨c1,⟨hq _ q2,hq _ q3,hq _ q4,hq _ q5⟩,c2⟩
theorem Alv {w:World} {base:Nat} {v:Value} {es:List Cm} (h:Ou w base v es):ESh (Qd ((v,2)::es.map (λm=>(m.av,0)))) w v es/\Gf w (ePs v es)/\(ePs v es).Nodup:=by
 obtain⟨h1,h2,hp⟩:=h;rw[A4z] at hp;have hkvb:0<es.length->v.ownBlock=some (vb v):=by
  intro hz;obtain⟨g,cap,hv,_⟩:=Aw h1 hz;rw[hv];rfl
 refine⟨⟨?_,λi hi=>?_⟩,λp hp2=>?_,?_⟩
 ·by_cases hz:es.length=0
  ·obtain⟨a,cap,rfl⟩:=Af h1
   exact⟨a,cap,rfl,λh=>absurd h (by omega)⟩
  ·obtain⟨g,cap,hv,_⟩:=Aw h1 (by omega)
   refine⟨some ⟨g,0,none⟩,cap,hv,λ_=>?_⟩;rw[hv];rfl
 ·obtain⟨g,cap,hv,_,hlt,_,hcell⟩:=Aw h1 (by omega)
  have e:vb v=g:=by rw[hv];rfl
  obtain⟨_,a2⟩:=Po es i hi;rw[e];refine⟨hlt,⟨(v,2),by simp,by rw[hv];rfl,?_⟩,hcell _ _ a2,(Lh (h2 _ (A4k hi))).1⟩;show ¬(i*2+1) % 2=0
  omega
 ·rcases Abg _ _ 0 p hp2 with⟨i,hi,hp3⟩ | ⟨q,hq,hp3⟩
  ·have hi':i<es.length:=by simpa using hi
   obtain⟨g,cap,hv,_,hlt,_,hcell⟩:=Aw h1 (by omega);have e:vb v=g:=by rw[hv];rfl
   obtain⟨a1,_⟩:=Po es i hi';subst hp3;rw[e];subst hv;exact⟨hlt,⟨_,by rw[ad];simp only[A4m];exact hcell _ _ a1⟩,h1.frozenAt _⟩
  ·obtain⟨x,hx,rfl⟩:=List.mem_map.1 hq
   exact(Lh (h2 x hx)).2.1 p hp3
 ·refine Afh _ _ 0 (λq hq=>?_) ?_
  ·obtain⟨x,hx,rfl⟩:=List.mem_map.1 hq
   refine⟨Uj _ _,λp hp3 e=>?_⟩;have h3:=((Lh (h2 x hx)).2.2 p hp3).2;rw[e] at h3;exact(hp.1 x.av (Iy.2 ⟨x,hx,rfl⟩)).no (hkvb (List.length_pos_of_mem hx)) h3
  ·rw[List.pairwise_map]
   have hpe:=hp.2;unfold Et at hpe;rw[List.pairwise_map] at hpe;refine List.Pairwise.imp_of_mem (fun {a b} ha hb hab p hp3 hp4=>?_) hpe;exact hab.no ((Lh (h2 a ha)).2.2 p hp3).2 ((Lh (h2 b hb)).2.2 p hp4).2
theorem Ach.val {ts:List Tg} {p:Pl} (h:Ach ts p):∃x∈ts.map (·.1),x.ownBlock=some p.1:=by
 obtain⟨t,ht,h1,_⟩:=h;exact⟨t.1,List.mem_map.2 ⟨t,ht,rfl⟩,h1⟩
theorem Aff (v:Value) (es:List Cm):((v,2)::es.map (λm=>(m.av,0)):List Tg).map (·.1)=v::Et es:=by
 simp[Et,Function.comp]
theorem Au.nums_at {w:World} {base:Nat} (m:Au):Hy w base m->ASh (Qd m.tags) w m/\Gf w m.inner/\m.inner.Nodup:=by
 refine Jz (λm=>Hy w base m->ASh (Qd m.tags) w m/\Gf w m.inner/\m.inner.Nodup) ?_ m;intro n cv cs kv kids ih h;obtain⟨hok,hpw⟩:=h;obtain⟨hN,⟨hC,hCs⟩,hK,hkids⟩:=(G8 _ _ _).1 hok;simp only at hN hC hCs hK hkids;rw[Au.vals_eq] at hpw;simp only at hpw;obtain⟨pN,pR,pNR⟩:=List.pairwise_append.1 hpw;obtain⟨pC,pK,pCK⟩:=List.pairwise_append.1 pR;obtain⟨pKv,pKs⟩:=List.pairwise_cons.1 pK;have pKs2:=pKs;unfold Fp at pKs2;rw[List.pairwise_flatten] at pKs2;have hown:∀x∈kids,Hy w base x:=λx hx=>⟨hkids x hx,pKs2.1 _ (List.mem_map.2 ⟨x,hx,rfl⟩)⟩
 have hvm:∀x∈kids,∀v∈x.vals,v∈Fp kids:=λx hx v hv=>Ie.2 ⟨x,hx,hv⟩
 obtain⟨nS,nN,nD,_,_⟩:=Ah.places n ⟨hN,pN⟩;obtain⟨eS,eN,eD⟩:=Alv (v:=cv) (es:=cs) ⟨hC,hCs,pC⟩;have hnn:=n.nums hN;have hen:=Ai2 hC hCs;have hkvb:0<kids.length->kv.ownBlock=some (vb kv):=by
  intro hz;obtain⟨g,cap,hv,_⟩:=Aw hK hz;rw[hv];rfl
 have hkn:∀x∈kids,∀p∈x.inner,∃v∈x.vals,v.ownBlock=some p.1:=by
  intro x hx p hp;obtain⟨v,hv,hb⟩:=(x.nums (hkids x hx) p hp).val;rw[Au.tags_vals] at hv;exact⟨v,hv,hb⟩
 have hkps:∀p∈(Au.mk n cv cs kv kids).kps,∃v∈kv::Fp kids,v.ownBlock=some p.1:=by
  intro p hp;rcases Oa 6 _ _ 0 p hp with⟨i,hi,hp⟩ | ⟨q,hq,hp⟩
  ·have hi':i<kids.length:=by simpa using hi
   refine⟨kv,by simp,?_⟩;rcases hp with rfl | rfl<;>exact hkvb (by omega)
  ·obtain⟨x,hx,rfl⟩:=List.mem_map.1 hq
   obtain⟨v,hv,hb⟩:=hkn x hx p hp;exact⟨v,A4h _ (hvm x hx v hv),hb⟩
 have hin:(Au.mk n cv cs kv kids).inner=n.inner++(ePs cv cs++(Au.mk n cv cs kv kids).kps):=by
  rw[Au.inner_eq,<-A41,<-Ah.inner_eq]
 refine⟨?_,?_,?_⟩
 ·rw[Yj]
  refine⟨MSh.mono (λp hp=>?_) n nS,⟨eS.1,λi hi=>?_⟩,?_,λi hi=>?_,λx hx=>ASh.mono (λp hp=>hp.mono (λt ht=>?_)) x (ih x hx (hown x hx)).1⟩
  ·obtain⟨h4,v,hv,hb⟩:=hp
   refine⟨(v,1),?_,hb,?_⟩
   ·rw[Au.tags_eq];exact A4o _ (n.rows_tags v hv)
   ·show ¬p.2 % 4<2
    omega
  ·obtain⟨c1,c2,c3,c4⟩:=eS.2 i hi
   exact⟨c1,c2.mono (λt ht=>by rw[Au.tags_eq];exact A4l _ (A4o _ ht)),c3,c4⟩
  ·simp only
   by_cases hz:kids.length=0
   ·obtain⟨a,cap,rfl⟩:=Af hK
    exact⟨a,cap,rfl,λh=>absurd h (by omega)⟩
   ·obtain⟨g,cap,hv,_⟩:=Aw hK (by omega)
    refine⟨some ⟨g,0,none⟩,cap,hv,λ_=>?_⟩;rw[hv];rfl
  ·simp only at hi ⊢
   obtain⟨g,cap,hv,_,hlt,_,hcell⟩:=Aw hK (by omega);have e:vb kv=g:=by rw[hv];rfl
   have hg:kv.ownBlock=some g:=by rw[hv];rfl
   rw[e];obtain⟨_,_,a3,a4,a5,a6⟩:=Ll kids i hi;have hh:∀o,¬o % 6<2->Qd (Au.mk n cv cs kv kids).tags (g,o):=λo ho=>⟨(kv,3),by rw[Au.tags_eq];simp,hg,ho⟩
   exact⟨hlt,⟨hh _ (by omega),hh _ (by omega),hh _ (by omega),hh _ (by omega)⟩,hcell _ _ a3,hcell _ _ a4,hcell _ _ a5,hcell _ _ a6⟩
  ·rw[Au.tags_eq]
   exact A4l _ (A4l _ (A4h _ (List.mem_flatten.2 ⟨_,List.mem_map.2 ⟨x,hx,rfl⟩,ht⟩)))
 ·rw[hin]
  intro p hp;rcases List.mem_append.1 hp with hp | hp
  ·exact nN p hp
  rcases List.mem_append.1 hp with hp | hp
  ·exact eN p hp
  ·rcases Oa 6 _ _ 0 p hp with⟨i,hi,hp5⟩ | ⟨q,hq,hp5⟩
   ·have hi':i<kids.length:=by simpa using hi
    obtain⟨g,cap,hv,_,hlt,_,hcell⟩:=Aw hK (by omega);have e:vb kv=g:=by rw[hv];rfl
    have hfz:=λo=>by
     rw[hv] at hK;exact hK.frozenAt o
    simp only[e] at hp5;obtain⟨a1,a2,_,_,_,_⟩:=Ll kids i hi';rcases hp5 with hp5 | hp5
    ·rw[hp5]
     exact⟨hlt,⟨_,by rw[ad];simp only[A4m];exact hcell _ _ a1⟩,hfz _⟩
    ·rw[hp5]
     exact⟨hlt,⟨_,by rw[ad];simp only[A4m];exact hcell _ _ a2⟩,hfz _⟩
   ·obtain⟨x,hx,rfl⟩:=List.mem_map.1 hq
    exact(ih x hx (hown x hx)).2.1 p hp5
 ·rw[hin,A5e]
  refine⟨nD,List.nodup_append.2 ⟨eD,Xy 6 _ (by omega) _ 0 (λq hq=>?_) ?_,λp hp r hr e=>?_⟩,λp hp r hr e=>?_⟩
  ·obtain⟨x,hx,rfl⟩:=List.mem_map.1 hq
   refine⟨(ih x hx (hown x hx)).2.2,λp hp e=>?_⟩;obtain⟨v,hv,hb⟩:=hkn x hx p hp;simp only at e;rw[e] at hb;exact(pKv v (hvm x hx v hv)).no (hkvb (List.length_pos_of_mem hx)) hb
  ·rw[List.pairwise_map]
   refine List.pairwise_iff_getElem.2 (λi j hi hj hij p hp hp2=>?_);have hx:=A4k hi;have hy:=A4k hj;obtain⟨u,hu,h1⟩:=hkn _ hx p hp;obtain⟨v,hv,h2⟩:=hkn _ hy p hp2;have hpp:=pKs2.2;rw[List.pairwise_map] at hpp;exact((List.pairwise_iff_getElem.1 hpp) i j hi hj hij u hu v hv).no h1 h2
  ·subst e
   obtain⟨u,hu,h1⟩:=(hen p hp).val;rw[Aff] at hu;obtain⟨v,hv,h2⟩:=hkps p hr;exact(pCK u hu v hv).no h1 h2
  ·subst e
   obtain⟨u,hu,h1⟩:=(hnn p hp).val;rw[Ah.tags_vals] at hu;rcases List.mem_append.1 hr with hr | hr
   ·obtain⟨v,hv,h2⟩:=(hen p hr).val
    rw[Aff] at hv;exact(pNR u hu v (A4o _ hv)).no h1 h2
   ·obtain⟨v,hv,h2⟩:=hkps p hr
    exact(pNR u hu v (A4l _ hv)).no h1 h2
theorem Au.places {w:World} {base:Nat} (m:Au) (h:Hy w base m):ASh (Qd m.tags) w m/\Gf w m.inner/\m.inner.Nodup/\(∀p∈m.inner,base<=p.1)/\(∀p∈m.inner,¬Qd m.tags p)/\∀p,Qd m.tags p->base<=p.1:=by
 obtain⟨h1,h2,h3⟩:=m.nums_at h;refine⟨h1,h2,h3,λp hp=>?_,λp hp=>?_,λp hp=>?_⟩
 ·obtain⟨v,hv,hb⟩:=(m.nums h.1 p hp).val
  rw[Au.tags_vals] at hv;exact(h.1.lt m v hv _ hb).1
 ·exact Apa (by rw[Au.tags_vals];exact h.2) (m.nums h.1 p hp)
 ·obtain⟨t,ht,hb,_⟩:=hp
  refine(h.1.lt m t.1 ?_ _ hb).1;rw[<-Au.tags_vals];exact List.mem_map.2 ⟨t,ht,rfl⟩
end Go.Proofs.YtbfljjcnbbmoaaaGreatDoor
