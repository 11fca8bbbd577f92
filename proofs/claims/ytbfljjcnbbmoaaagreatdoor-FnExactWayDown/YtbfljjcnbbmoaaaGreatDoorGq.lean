import Derived.Test.YtbfljjcnbbmoaaaGreatDoorGm
set_option maxHeartbeats 4000000
set_option maxRecDepth 100000
namespace Go.Proofs.YtbfljjcnbbmoaaaGreatDoor
open Go.RowKit Go.Sort Go.BigFrame
variable {base base':Nat}{v v' x:Value}{w':World}
structure Df where
 op:Int
 ds:List Stil.Dev
 av:Value
def Df.elem (m:Df):Stil.Elem:=⟨m.op,m.ds⟩
def Ff (es:List Df):List Value:=es.map Df.av
def Df.cells (m:Df):List Value:=[.int .i64 m.op,m.av]
def Gh (es:List Df):List Value:=es.flatMap Df.cells
theorem Zx (a b:List Df):Gh (a++b)=Gh a++Gh b:=by simp[Gh]
theorem Aqy (m:Df):Gh [m]=m.cells:=by simp[Gh]
theorem Sj (a b:List Df):Ff (a++b)=Ff a++Ff b:=by simp[Ff]
theorem Jd {es:List Df}:x∈Ff es↔∃m∈es,m.av=x:=by simp[Ff]
theorem Xo (es:List Df):(Gh es).length=es.length*2:=by
 induction es with
 | nil=>rfl
 | cons m r ih=>
  have e:Gh (m::r)=m.cells++Gh r:=rfl;rw[e,A38,ih];simp[Df.cells];omega
theorem Qd:∀(es:List Df) (i:Nat) (h:i<es.length),(Gh es)[i*2]?=some (.int .i64 es[i].op)/\(Gh es)[i*2+1]?=some es[i].av
 | [],_,h=>by simp at h
 | m::r,0,_=>⟨rfl,rfl⟩
 | m::r,i+1,h=>by
  obtain⟨a1,a2⟩:=Qd r i (by simpa using h);have e:Gh (m::r)=.int .i64 m.op::m.av::Gh r:=rfl;have e1:(i+1)*2=i*2+1+1:=omz
  rw[e,e1];exact⟨by simpa using a1,by simpa using a2⟩
def EOk (w:World)(base:Nat)(m:Df):Prop:=w.ownsRow base 86 3 m.av m.ds.length (Cb m.ds)
def Pg (w:World)(base:Nat)(v:Value)(es:List Df):Prop:=w.ownsRow base 49 2 v es.length (Gh es)/\(∀m∈es,EOk w base m)/\(v::Ff es).Pairwise Aside
theorem Pg.nil (w:World)(base:Nat):Pg w base (.slice none 0 0) []:=⟨World.ownsRow_nil _ _ _ _,(λm hm=>by cases hm),List.pairwise_singleton _ _⟩
theorem Pg.below {w:World}{es:List Df}(h:Pg w base v es)(hb:Below w.heap.size w w'):Pg w' base v es:=⟨ownsRow_below h.1 hb,λm hm=>ownsRow_below (h.2.1 m hm) hb,h.2.2⟩
theorem Pg.le {w:World}{es:List Df}(h:Pg w base v es)(hl:base'<=base):Pg w base' v es:=⟨Joins.ownsRow_le h.1 hl,λm hm=>Joins.ownsRow_le (h.2.1 m hm) hl,h.2.2⟩
theorem Pg.lt {w:World}{es:List Df}(h:Pg w base v es):∀x∈v::Ff es,∀k,x.ownBlock=some k->base<=k/\k<w.heap.size:=by
 intro x hx k hk;rcases List.mem_cons.1 hx with rfl | hx
 ·exact h.1.lt k hk
 ·obtain⟨m,hm,rfl⟩:=Jd.1 hx
  exact(h.2.1 m hm).lt k hk
theorem Pg.add {w:World}{es ks:List Df}(h:Pg w base v es)(hk:∀m∈ks,EOk w base m)(hp:(v::(Ff es++Ff ks)).Pairwise Aside)
  (hown:w'.ownsRow base 49 2 v' (es.length+ks.length) (Gh es++Gh ks)) (hg:w.grownBy w' v.ownBlock) (hat:v'.ownBlock=v.ownBlock\/v'.ownBlock=some w.heap.size):Pg w' base v' (es++ks):=by
 rw[A4u] at hp;have hkl:∀x∈Ff es++Ff ks,∀k,x.ownBlock=some k->k<w.heap.size:=by
  intro x hx k hk2;rcases List.mem_append.1 hx with hx | hx
  ·exact(h.lt x (A4c _ hx) k hk2).2
  ·obtain⟨m,hm,rfl⟩:=Jd.1 hx
   exact((hk m hm).lt k hk2).2
 refine⟨by rw[A38,Zx];exact hown,λm hm=>?_,?_⟩
 ·rcases List.mem_append.1 hm with hm | hm
  ·exact(h.2.1 m hm).kept hg (hp.1 _ (A4j _ (Jd.2 ⟨m,hm,rfl⟩))).symm
  ·exact(hk m hm).kept hg (hp.1 _ (A4g _ (Jd.2 ⟨m,hm,rfl⟩))).symm
 ·rw[Sj,A4u]
  refine⟨λy hy=>?_,hp.2⟩;rcases hat with e | e
  ·rcases hp.1 y hy with h0 | h0
   ·exact .inl (by rw[e];exact h0)
   ·exact .inr (by rw[e];exact h0)
  ·refine .inr (λe2=>?_)
   rw[e] at e2;have:=hkl y hy _ e2.symm
   omega
structure Aw where
 net:Ah
 cv:Value
 coils:List Df
 kv:Value
 kids:List Aw
theorem J9 (P:Aw->Prop)(h:∀n cv cs kv kids,(∀x∈kids,P x)->P ⟨n,cv,cs,kv,kids⟩):∀n,P n
 | ⟨n,cv,cs,kv,kids⟩=>h n cv cs kv kids (λx _=>J9 P h x)
def Aw.arm:Aw->Stil.Arm
 | ⟨n,_,cs,_,kids⟩=>⟨n.net,cs.map Df.elem,kids.map Aw.arm⟩
theorem Aw.arm_eq (m:Aw):m.arm=⟨m.net.net,m.coils.map Df.elem,m.kids.map Aw.arm⟩:=by obtain⟨n,cv,cs,kv,kids⟩:=m;rw[Aw.arm]
def Aw.vals:Aw->List Value
 | ⟨n,cv,cs,kv,kids⟩=>n.vals++((cv::Ff cs)++(kv::(kids.map Aw.vals).flatten))
def Gj (aX:List Aw):List Value:=(aX.map Aw.vals).flatten
theorem Aw.vals_eq (m:Aw):m.vals=m.net.vals++((m.cv::Ff m.coils)++(m.kv::Gj m.kids)):=by obtain⟨n,cv,cs,kv,kids⟩:=m;rw[Aw.vals];rfl
theorem Sm (a b:List Aw):Gj (a++b)=Gj a++Gj b:=by simp[Gj]
theorem Nq (m:Aw):Gj [m]=m.vals:=by simp[Gj]
theorem Io {aX:List Aw}:x∈Gj aX↔∃m∈aX,x∈m.vals:=by
 simp only[Gj,List.mem_flatten,A4s];constructor
 ·rintro⟨_,⟨m,hm,rfl⟩,hx⟩;exact⟨m,hm,hx⟩
 ·rintro⟨m,hm,hx⟩;exact⟨_,⟨m,hm,rfl⟩,hx⟩
def Aw.cells (m:Aw):List Value:=[.int .i64 m.net.kind, .int .i64 m.net.op,m.net.av,m.net.kv,m.cv,m.kv]
def Gg (aX:List Aw):List Value:=aX.flatMap Aw.cells
theorem Aad (a b:List Aw):Gg (a++b)=Gg a++Gg b:=by simp[Gg]
theorem Asb (m:Aw):Gg [m]=m.cells:=by simp[Gg]
theorem Xv (aX:List Aw):(Gg aX).length=aX.length*6:=by
 induction aX with
 | nil=>rfl
 | cons m r ih=>
  have e:Gg (m::r)=m.cells++Gg r:=rfl;rw[e,A38,ih];simp[Aw.cells];omega
theorem Na:∀(aX:List Aw) (i:Nat) (h:i<aX.length),(Gg aX)[i*6]?=some (.int .i64 aX[i].net.kind)/\(Gg aX)[i*6+1]?=some (.int .i64 aX[i].net.op)/\(Gg aX)[i*6+2]?=some aX[i].net.av/\(Gg aX)[i*6+3]?=some aX[i].net.kv/\(Gg aX)[i*6+4]?=some aX[i].cv/\(Gg aX)[i*6+5]?=some aX[i].kv
 | [],_,h=>by simp at h
 | m::r,0,_=>⟨rfl,rfl,rfl,rfl,rfl,rfl⟩
 | m::r,i+1,h=>by
  obtain⟨a1,a2,a3,a4,a5,a6⟩:=Na r i (by simpa using h);have e:Gg (m::r)=.int .i64 m.net.kind::.int .i64 m.net.op::m.net.av::m.net.kv::m.cv::m.kv::Gg r:=rfl;have e1:(i+1)*6=i*6+1+1+1+1+1+1:=omz
  rw[e,e1];exact⟨by simpa using a1,by simpa using a2,by simpa using a3,by simpa using a4,by simpa using a5,by simpa using a6⟩
def AOk (w:World)(base:Nat):Aw->Prop
 | ⟨n,cv,cs,kv,kids⟩=>MOk w base n/\(w.ownsRow base 49 2 cv cs.length (Gh cs)/\∀m∈cs,EOk w base m)/\w.ownsRow base 55 6 kv kids.length (Gg kids)/\∀p∈kids.map (AOk w base),p
theorem Hf (w:World)(base:Nat)(m:Aw):AOk w base m↔MOk w base m.net/\(w.ownsRow base 49 2 m.cv m.coils.length (Gh m.coils)/\∀x∈m.coils,EOk w base x)/\w.ownsRow base 55 6 m.kv m.kids.length (Gg m.kids)/\∀x∈m.kids,AOk w base x:=by
 obtain⟨n,cv,cs,kv,kids⟩:=m;rw[AOk,Stil.all_map]
theorem AOk.map {w:World}(m:Aw)(h:AOk w base m)(hk:∀(e:TypeId) (s n:Nat) (v:Value) (xs:List Value),v∈m.vals->w.ownsRow base e s v n xs->w'.ownsRow base' e s v n xs):AOk w' base' m:=by
 revert h hk
 refine J9 (λm=>AOk w base m->(∀(e:TypeId) (s n:Nat) (v:Value) (xs:List Value),v∈m.vals->w.ownsRow base e s v n xs->w'.ownsRow base' e s v n xs)->AOk w' base' m) ?_ m;intro n cv cs kv kids ih h hk;rw[Hf] at h ⊢;simp only[Aw.vals_eq] at hk;obtain⟨h1,⟨h2,h3⟩,h4,h5⟩:=h;refine⟨MOk.map n h1 (λe s k v xs hv=>hk e s k v xs (A4j _ hv)),⟨hk _ _ _ _ _ spz h2,λx hx=>hk _ _ _ _ _ ?_ (h3 x hx)⟩,hk _ _ _ _ _ spz h4,λx hx=>ih x hx (h5 x hx) (λe s k v xs hv=>hk e s k v xs ?_)⟩
 ·exact A4g _ (A4j _ (A4c _ (Jd.2 ⟨x,hx,rfl⟩)))
 ·exact A4g _ (A4g _ (A4c _ (Io.2 ⟨x,hx,hv⟩)))
theorem AOk.below {w:World}{m:Aw}(h:AOk w base m)(hb:Below w.heap.size w w'):AOk w' base m:=AOk.map m h (λ_ _ _ _ _ _ ho=>ownsRow_below ho hb)
theorem AOk.kept {w:World}{m:Aw}(h:AOk w base m)(hg:w.grownBy w' x.ownBlock)(ha:∀u∈m.vals,Aside u x):AOk w' base m:=AOk.map m h (λ_ _ _ _ _ hv ho=>ho.kept hg (ha _ hv))
theorem AOk.le {w:World}{m:Aw}(h:AOk w base m)(hl:base'<=base):AOk w base' m:=AOk.map m h (λ_ _ _ _ _ _ ho=>Joins.ownsRow_le ho hl)
theorem AOk.lt {w:World}(m:Aw)(h:AOk w base m):∀x∈m.vals,∀k,x.ownBlock=some k->base<=k/\k<w.heap.size:=by
 revert h
 refine J9 (λm=>AOk w base m->∀x∈m.vals,∀k,x.ownBlock=some k->base<=k/\k<w.heap.size) ?_ m;intro n cv cs kv kids ih h x hx j hj;rw[Hf] at h;obtain⟨h1,⟨h2,h3⟩,h4,h5⟩:=h;rw[Aw.vals_eq] at hx;simp only[A4l,A4t] at hx;rcases hx with hx | (rfl | hx) | rfl | hx
 ·exact h1.lt _ x hx j hj
 ·exact h2.lt j hj
 ·obtain⟨y,hy,rfl⟩:=Jd.1 hx
  exact(h3 y hy).lt j hj
 ·exact h4.lt j hj
 ·obtain⟨y,hy,hx⟩:=Io.1 hx
  exact ih y hy (h5 y hy) x hx j hj
def Ic (w:World)(base:Nat)(m:Aw):Prop:=AOk w base m/\m.vals.Pairwise Aside
theorem Ic.below {w:World}{m:Aw}(h:Ic w base m)(hb:Below w.heap.size w w'):Ic w' base m:=⟨h.1.below hb,h.2⟩
theorem Ic.le {w:World}{m:Aw}(h:Ic w base m)(hl:base'<=base):Ic w base' m:=⟨h.1.le hl,h.2⟩
def Oi (w:World)(base:Nat)(v:Value)(aX:List Aw):Prop:=w.ownsRow base 55 6 v aX.length (Gg aX)/\(∀m∈aX,AOk w base m)/\(v::Gj aX).Pairwise Aside
theorem Oi.nil (w:World)(base:Nat):Oi w base (.slice none 0 0) []:=⟨World.ownsRow_nil _ _ _ _,(λm hm=>by cases hm),List.pairwise_singleton _ _⟩
theorem Oi.below {w:World}{aX:List Aw}(h:Oi w base v aX)(hb:Below w.heap.size w w'):Oi w' base v aX:=⟨ownsRow_below h.1 hb,λm hm=>(h.2.1 m hm).below hb,h.2.2⟩
theorem Oi.le {w:World}{aX:List Aw}(h:Oi w base v aX)(hl:base'<=base):Oi w base' v aX:=⟨Joins.ownsRow_le h.1 hl,λm hm=>(h.2.1 m hm).le hl,h.2.2⟩
theorem Oi.lt {w:World}{aX:List Aw}(h:Oi w base v aX):∀x∈v::Gj aX,∀k,x.ownBlock=some k->base<=k/\k<w.heap.size:=by
 intro x hx k hk;rcases List.mem_cons.1 hx with rfl | hx
 ·exact h.1.lt k hk
 ·obtain⟨m,hm,hx⟩:=Io.1 hx
  exact(h.2.1 m hm).lt m x hx k hk
theorem Oi.add {w:World}{aX ks:List Aw}(h:Oi w base v aX)(hk:∀m∈ks,AOk w base m)(hp:(v::(Gj aX++Gj ks)).Pairwise Aside)
  (hown:w'.ownsRow base 55 6 v' (aX.length+ks.length) (Gg aX++Gg ks)) (hg:w.grownBy w' v.ownBlock) (hat:v'.ownBlock=v.ownBlock\/v'.ownBlock=some w.heap.size):Oi w' base v' (aX++ks):=by
 rw[A4u] at hp;have hkl:∀x∈Gj aX++Gj ks,∀k,x.ownBlock=some k->k<w.heap.size:=by
  intro x hx k hk2;rcases List.mem_append.1 hx with hx | hx
  ·exact(h.lt x (A4c _ hx) k hk2).2
  ·obtain⟨m,hm,hx⟩:=Io.1 hx
   exact((hk m hm).lt m x hx k hk2).2
 refine⟨by rw[A38,Aad];exact hown,λm hm=>?_,?_⟩
 ·rcases List.mem_append.1 hm with hm | hm
  ·exact(h.2.1 m hm).kept hg (λu hu=>(hp.1 u (A4j _ (Io.2 ⟨m,hm,hu⟩))).symm)
  ·exact(hk m hm).kept hg (λu hu=>(hp.1 u (A4g _ (Io.2 ⟨m,hm,hu⟩))).symm)
 ·rw[Sm,A4u]
  refine⟨λy hy=>?_,hp.2⟩;rcases hat with e | e
  ·rcases hp.1 y hy with h0 | h0
   ·exact .inl (by rw[e];exact h0)
   ·exact .inr (by rw[e];exact h0)
  ·refine .inr (λe2=>?_)
   rw[e] at e2;have:=hkl y hy _ e2.symm
   omega
theorem Oi.apart {w w1:World}{aX ks:List Aw}{b1:Nat}(h:Oi w base v aX)(hk:∀m∈ks,AOk w1 b1 m)(hb:w.heap.size<=b1)(hp:(Gj ks).Pairwise Aside):(v::(Gj aX++Gj ks)).Pairwise Aside:=by
 have hx:=h.lt;have hy:∀y∈Gj ks,∀k,y.ownBlock=some k->w.heap.size<=k:=by
  intro y hy k hk2;obtain⟨m,hm,hy⟩:=Io.1 hy;exact A4k hb ((hk m hm).lt m y hy k hk2).1
 have h2:=h.2.2;rw[A4u] at h2 ⊢;refine⟨λy hy2=>?_,List.pairwise_append.2 ⟨h2.2,hp,λx hx2 y hy2=>Ef (λk hk2=>(hx x (A4c _ hx2) k hk2).2) (hy y hy2)⟩⟩;rcases List.mem_append.1 hy2 with hy2 | hy2
 ·exact h2.1 y hy2
 ·exact Ef (λk hk2=>(hx v spz k hk2).2) (hy y hy2)
theorem Aqx {w:World}{es:List Df}(h1:w.ownsRow base 49 2 v es.length (Gh es))(h2:∀m∈es,EOk w base m):J5 base w v (es.map Df.elem):=by
 by_cases hz:es.length=0
 ·obtain⟨a,cap,rfl⟩:=Af h1
  exact⟨a,cap,spz,λi hi=>absurd hi (by simp;omega)⟩
 ·obtain⟨g,cap,hv,hbase,hlt,_,hcell⟩:=Az h1 omz
  subst hv;refine⟨_,cap,spz,λi hi=>⟨g,0,rfl,hbase,hlt,?_⟩⟩;have hi':i<es.length:=by simpa using hi
  obtain⟨a1,a2⟩:=Qd es i hi';rw[List.getElem_map,A4h];exact⟨hcell _ _ a1,_,hcell _ _ a2,Hl.of_owns (h2 _ (A4f hi'))⟩
theorem AOk.from {w:World}(m:Aw)(h:AOk w base m):Hl base w m.net.av m.arm.net.one.args/\Sr base w m.net.kv m.arm.net.kids/\J5 base w m.cv m.arm.coils/\Py base w m.kv m.arm.kids:=by
 revert h
 refine J9 (λm=>AOk w base m->Hl base w m.net.av m.arm.net.one.args/\Sr base w m.net.kv m.arm.net.kids/\J5 base w m.cv m.arm.coils/\Py base w m.kv m.arm.kids) ?_ m;intro n cv cs kv kids ih h;rw[Hf] at h;rw[Aw.arm_eq];simp only at h ⊢;obtain⟨h1,⟨h2,h3⟩,h4,h5⟩:=h;obtain⟨f1,f2⟩:=MOk.from n h1;refine⟨f1,f2,Aqx h2 h3,?_⟩;by_cases hz:kids.length=0
 ·obtain⟨a,cap,rfl⟩:=Af h4
  exact⟨a,cap,spz,λi hi=>absurd hi (by simp;omega)⟩
 ·obtain⟨g,cap,hv,hbase,hlt,_,hcell⟩:=Az h4 omz
  subst hv;refine⟨_,cap,spz,λi hi=>⟨g,0,rfl,hbase,hlt,?_⟩⟩;have hi':i<kids.length:=by simpa using hi
  obtain⟨a1,a2,a3,a4,a5,a6⟩:=Na kids i hi';obtain⟨g1,g2,g3,g4⟩:=ih _ (A4f hi') (h5 _ (A4f hi'));rw[List.getElem_map,Ane,Aej,A4h];have e:=Aw.arm_eq kids[i];have e1:kids[i].arm.net.kind=kids[i].net.kind:=by rw[e];simp only;rw[Ah.net_eq]
  have e2:kids[i].arm.net.one.op=kids[i].net.op:=by rw[e];simp only;rw[Ah.net_eq]
  rw[e1,e2];exact⟨⟨hcell _ _ a1,hcell _ _ a2,⟨_,hcell _ _ a3,g1⟩,⟨_,hcell _ _ a4,g2⟩⟩,⟨_,hcell _ _ a5,g3⟩,⟨_,hcell _ _ a6,g4⟩⟩
def Xn (b:Nat):Nat->List (List Pl)->List Pl
 | _,[]=>[]
 | o,q::r=>(b,o)::(q++Xn b (o+2) r)
theorem Ad3 (b:Nat):∀(qs:List (List Pl)) (o i:Nat) (h:i<qs.length),Xn b o (qs.take (i+1))=Xn b o (qs.take i)++((b,o+i*2)::qs[i])
 | [],_,_,h=>by simp at h
 | q::r,o,0,_=>by simp[Xn]
 | q::r,o,i+1,h=>by
  have ih:=Ad3 b r (o+2) i (by simpa using h);rw[List.take_succ_cons,List.take_succ_cons,Xn,Xn,ih];have e:o+2+i*2=o+(i+1)*2:=omz
  simp[e]
theorem Af8 (b:Nat):∀(qs:List (List Pl)) (o i:Nat),i<=qs.length->Xn b o qs=Xn b o (qs.take i)++Xn b (o+i*2) (qs.drop i)
 | qs,o,0,_=>by simp[Xn]
 | [],_,i+1,h=>by simp at h
 | q::r,o,i+1,h=>by
  have ih:=Af8 b r (o+2) i (by simpa using h);rw[List.take_succ_cons,List.drop_succ_cons,Xn,Xn,ih];have e:o+2+i*2=o+(i+1)*2:=omz
  simp[e]
theorem Ayy (b:Nat):∀(qs:List (List Pl)) (o:Nat),qs.length<=(Xn b o qs).length:=by
 intro qs;induction qs with
 | nil=>intro o;simp
 | cons q r ih=>intro o;have:=ih (o+2);simp[Xn];omega
theorem Ab8 (b:Nat):∀(qs:List (List Pl)) (o:Nat) (p:Pl),p∈Xn b o qs->(∃i,i<qs.length/\p=(b,o+i*2))\/∃q∈qs,p∈q
 | [],_,p,h=>by simp[Xn] at h
 | q::r,o,p,h=>by
  rw[Xn] at h;simp only[A4t,A4l] at h;rcases h with h | h | h
  ·exact .inl ⟨0,spz,by simpa using h⟩
  ·exact .inr ⟨q,spz,h⟩
  ·rcases Ab8 b r (o+2) p h with⟨i,hi,hp⟩ | ⟨q',hq',hp⟩
   ·refine .inl ⟨i+1,by simp;omega,?_⟩
    have e:o+2+i*2=o+(i+1)*2:=omz
    rwa [e] at hp
   ·exact .inr ⟨q',A4c _ hq',hp⟩
theorem Af9 (b:Nat):∀(qs:List (List Pl)) (o:Nat),(∀q∈qs,q.Nodup/\∀p∈q,p.1≠b)->qs.Pairwise (λq r=>∀p∈q,p∉r)->(Xn b o qs).Nodup
 | [],_,_,_=>List.nodup_nil
 | q::r,o,h1,h2=>by
  have ih:=Af9 b r (o+2) (λx hx=>h1 x (A4c _ hx)) (List.pairwise_cons.1 h2).2;obtain⟨hq1,hq2⟩:=h1 q spz;have hr:∀p∈Xn b (o+2) r,p≠(b,o)/\p∉q:=by
   intro p hp;rcases Ab8 b r (o+2) p hp with⟨i,_,hp⟩ | ⟨x,hx,hp⟩
   ·subst hp
    refine⟨λe=>?_,λe=>hq2 _ e rfl⟩;have:=(Prod.mk.inj e).2;omega
   ·have hx2:=(h1 x (A4c _ hx)).2 p hp
    exact⟨λe=>hx2 (by rw[e]),λe=>(List.pairwise_cons.1 h2).1 x hx p e hp⟩
  rw[Xn,List.nodup_cons,A49];refine⟨λh=>?_,hq1,ih,λa ha c hc e=>?_⟩
  ·rcases List.mem_append.1 h with h | h
   ·exact hq2 _ h rfl
   ·exact(hr _ h).1 rfl
  ·subst e;exact(hr _ hc).2 ha
def Df.dps (m:Df):List Pl:=Jb (vb m.av) m.ds.length
def ePs (v:Value)(es:List Df):List Pl:=Xn (vb v) 0 (es.map Df.dps)
def ESh (Q:Pl->Prop)(w:World)(v:Value)(es:List Df):Prop:=(∃a cap,v=.slice a es.length cap/\(0<es.length->a=some ⟨vb v,0,none⟩))/\
 ∀i (h:i<es.length),vb v<w.heap.size/\Q (vb v,i*2+1)/\w.cell? ⟨vb v,i*2+1,none⟩=some es[i].av/\Sv es[i].av es[i].dps
theorem ESh.map {Q:Pl->Prop}{w:World}{es:List Df}(hs:w.heap.size<=w'.heap.size)(hc:∀b o,b<w.heap.size->Q (b,o)->w'.cell? ⟨b,o,none⟩=w.cell? ⟨b,o,none⟩)(h:ESh Q w v es):ESh Q w' v es:=
 ⟨h.1,λi hi=>by
  obtain⟨c1,c2,c3,c4⟩:=h.2 i hi
  exact⟨A37 c1 hs,c2,(hc _ _ c1 c2).trans c3,c4⟩⟩
theorem Aln (Q:Pl->Prop)(v:Value)(es:List Df)(k:Int)(w:World)(hsh:ESh Q w v es)(hi:Gn w (ePs v es))(hnd:(ePs v es).Nodup)(hq:∀p∈ePs v es,¬Q p)(hk0:0<=k)(hkl:k+(ePs v es).length<=4611686018427387904):
  Calls Tryz.prog 27 #[v, .int .i64 k] w λe w'=>e=.returned (.int .i64 (k+(ePs v es).length))/\Dk w w' (ePs v es) k:=by
 obtain⟨⟨a,cap,hv,ha⟩,hcs⟩:=hsh;obtain⟨b,hb⟩:∃b,b=vb v:=⟨_,rfl⟩
 obtain⟨qs,gK⟩:∃qs,qs=es.map Df.dps:=⟨_,rfl⟩
 have jE:ePs v es=Xn b 0 qs:=by rw[hb,gK];rfl
 rw[jE] at hi hnd hq hkl ⊢;rw[<-hb] at ha hcs;subst hv;clear hb jE;obtain⟨n,hn⟩:∃n,n=es.length:=⟨_,rfl⟩
 have HN:=hid hn;have oN:Hid (qs.length=es.length):=by show _=_;rw[gK];simp
 have gm:Hid (∀i (h:i<qs.length) (h':i<es.length),qs[i]=es[i].dps):=by
  intro i h h';subst gK;rw[List.getElem_map]
 have HI:=hid hi;have rU:=hid hnd;have pX:=hid hkl;have HQ:=hid hq;have wP:=hid hcs;have HA:Hid (0<n->a=some ⟨b,0,none⟩):=by rw[hn];exact ha
 have hnb:n<=4611686018427387904:=by
  have h3:=Ayy b qs 0;have:=oN.out
  omega
 rw[<-hn];clear hi hnd hkl ha hn hcs hq gK;go_enter Tryz.func27,Tryz.ntmps27
 go_wp2
 go_loopw [1,5] (λkv iv wr=>∃(i:Nat) (L:Nat),i<=n/\L=(Xn b 0 (qs.take i)).length/\kv=.int .i64 (k+L)/\iv=.int .i64 i/\Dk w wr (Xn b 0 (qs.take i)) k) (λ_ iv _=>n - (intOf iv).toNat)
 case atStart=>exact⟨0,0,omz,by simp[Xn],spz,rfl,by simpa[Xn] using Dk.of_below (Below.refl _ _)⟩
 case round=>
  obtain⟨i,L,hi,hL,rfl,rfl,hm⟩:=hrel;have HM:=hid hm;have HL:=hid hL;clear hm hL;by_cases hlt:i<n
  ·have hlk:i<es.length:=by have:=HN.out;omega
   have hlq:i<qs.length:=by have:=oN.out;omega
   obtain rfl:=HA omz;obtain⟨hbz,hQ2,hav,uF⟩:=wP i hlk;have bJ:Xn b 0 qs=Xn b 0 (qs.take i)++(((b,0+i*2)::qs[i])++Xn b (0+(i+1)*2) (qs.drop (i+1))):=by
    rw[Af8 b qs 0 (i+1) omz,Ad3 b qs 0 i hlq,A4w]
   have aU:=hid (Ad3 b qs 0 i hlq);rw[gm.out i hlq hlk] at bJ aU;obtain⟨x,hx⟩:∃x,x=es[i]:=⟨_,rfl⟩
   rw[<-hx] at bJ aU hav uF;have hI:=HI.out;have hN:=rU.out;have hK:=pX.out;have dO:=HQ.out;rw[bJ] at hI hN hK dO;obtain⟨A,hA⟩:∃A,A=Xn b 0 (qs.take i):=⟨_,rfl⟩
   obtain⟨Z,hZ⟩:∃Z,Z=Xn b (0+(i+1)*2) (qs.drop (i+1)):=⟨_,rfl⟩
   rw[<-hA] at hI hN hK HM HL aU dO;rw[<-hZ] at hI hN hK dO;rw[A4h] at hI hN hK dO aU;obtain⟨P,hP⟩:∃P:List Pl,P=[(b,i*2)]:=⟨_,rfl⟩
   obtain⟨D,hD⟩:∃D,D=x.dps:=⟨_,rfl⟩
   have oC:((b,i*2)::x.dps)=P++D:=by rw[hP,hD];rfl
   rw[oC] at hI hN hK aU dO;have nI:Sv x.av D:=by rw[hD];exact uF
   clear bJ hA hZ hx oC hD uF;have gV:=List.nodup_append.1 hN;have hNP:=List.nodup_append.1 gV.2.1;have jU:=List.nodup_append.1 hNP.1;have mV:Hid (∀p∈A,p∉P++D):=λp hp hpq=>gV.2.2 p hp p (A4j _ hpq) rfl
   have kQ:Hid (∀p∈P,p∉D):=λp hp hpq=>jU.2.2 p hp p hpq rfl
   have vY:=hid jU.2.1;have kF:=(hI.right.left).marked HM (λp hp hpa=>gV.2.2 p hpa p (A4j _ hp) rfl);have iW:=kF.left;have wI:=hid (λp hp=>(iW p hp).1);have wJ:=hid kF.right;have tK:=hid (λp hp=>(hI.left p hp).1);have lG:=λp hp=>dO p (A4j _ hp)
   have hc2:wr.cell? ⟨b,i*2+1,none⟩=some x.av:=(HM.2.1 (b,i*2+1) hbz (λh=>lG _ h hQ2)).trans hav;have hLn:=HL.out;have hPl:P.length=1:=by rw[hP];rfl
   simp only[A38] at hK;have hq1:D.length<=4611686018427387904:=omz
   have hk2:k+L+1<=4611686018427387904:=omz
   have HC:=hid (λW hW=>Xf x.av D (k+L+1) W nI hW vY omz hk2 hq1);obtain⟨hb0,⟨n0,c0⟩,f0⟩:b<wr.heap.size/\(∃n,wr.cell? ⟨b,i*2,none⟩=some (.int .i64 n))/\wr.frozen? ⟨b,i*2,none⟩=false:=iW (b,i*2) (by rw[hP];simp);have iO:Hid (Dk wr (wr.setCell ⟨b,i*2,none⟩ (.int .i64 (k+L))) P (k+L)):=by rw[hP];exact Dk.one (k+L) c0
   have gX:=hid hPl;obtain⟨jy,jC⟩:∃v,v=x.av:=⟨_,rfl⟩
   rw[<-jC] at hc2 HC nI;obtain⟨a',n',cap',rfl,hz1,hz2⟩:=nI;clear hz1 hz2 hI hN hK gV hNP jU kF iW hav hP hLn lG dO hQ2 jC;have w1:IntKind.i64.wrap (k+(L:Int)+1)=k+L+1:=by rw[IntKind.wrap_i64];omega
   go_wp2_with (go_at_call 25;refine(HC _ (wJ.marked iO (λp hp hpp=>kQ p hpp hp))).mono ?_;rintro e w3 ⟨rfl,fU⟩)
   refine⟨⟨i+1,L+1+D.length,omz,?_,?_,by go_num,?_⟩,by simp[intOf];omega⟩
   ·rw[aU.out,A38,A38,gX.out,<-HL.out];omega
   ·congr 1;omega
   ·rw[aU.out]
    refine Dk.append HM.out ?_ tK mV.out;rw[<-HL.out];refine Dk.append iO.out ?_ wI kQ.out;rw[gX.out];exact fU
  ·exact zc0
def Aw.inner:Aw->List Pl
 | ⟨n,cv,cs,kv,kids⟩=>n.dps++(n.rps++(ePs cv cs++Gp 6 (vb kv) 0 (kids.map Aw.inner)))
def Aw.kps (m:Aw):List Pl:=Gp 6 (vb m.kv) 0 (m.kids.map Aw.inner)
theorem Aw.inner_eq (m:Aw):m.inner=m.net.dps++(m.net.rps++(ePs m.cv m.coils++m.kps)):=by obtain⟨n,cv,cs,kv,kids⟩:=m;rw[Aw.inner];rfl
def ASh (Q:Pl->Prop)(w:World):Aw->Prop
 | ⟨n,cv,cs,kv,kids⟩=>MSh Q w n/\ESh Q w cv cs/\(∃a cap,kv=.slice a kids.length cap/\(0<kids.length->a=some ⟨vb kv,0,none⟩))/\
  (∀i (h:i<kids.length),vb kv<w.heap.size/\(Q (vb kv,i*6+2)/\Q (vb kv,i*6+3)/\Q (vb kv,i*6+4)/\Q (vb kv,i*6+5))/\w.cell? ⟨vb kv,i*6+2,none⟩=some kids[i].net.av/\w.cell? ⟨vb kv,i*6+3,none⟩=some kids[i].net.kv/\w.cell? ⟨vb kv,i*6+4,none⟩=some kids[i].cv/\w.cell? ⟨vb kv,i*6+5,none⟩=some kids[i].kv)/\∀p∈kids.map (ASh Q w),p
theorem Y5 (Q:Pl->Prop)(w:World)(m:Aw):ASh Q w m↔MSh Q w m.net/\ESh Q w m.cv m.coils/\(∃a cap,m.kv=.slice a m.kids.length cap/\(0<m.kids.length->a=some ⟨vb m.kv,0,none⟩))/\
  (∀i (h:i<m.kids.length),vb m.kv<w.heap.size/\(Q (vb m.kv,i*6+2)/\Q (vb m.kv,i*6+3)/\Q (vb m.kv,i*6+4)/\Q (vb m.kv,i*6+5))/\w.cell? ⟨vb m.kv,i*6+2,none⟩=some m.kids[i].net.av/\w.cell? ⟨vb m.kv,i*6+3,none⟩=some m.kids[i].net.kv/\w.cell? ⟨vb m.kv,i*6+4,none⟩=some m.kids[i].cv/\w.cell? ⟨vb m.kv,i*6+5,none⟩=some m.kids[i].kv)/\∀x∈m.kids,ASh Q w x:=by
 obtain⟨n,cv,cs,kv,kids⟩:=m;rw[ASh,Stil.all_map]
theorem ASh.map {Q:Pl->Prop}{w:World}(hs:w.heap.size<=w'.heap.size)(hc:∀b o,b<w.heap.size->Q (b,o)->w'.cell? ⟨b,o,none⟩=w.cell? ⟨b,o,none⟩)(m:Aw):ASh Q w m->ASh Q w' m:=by
 refine J9 (λm=>ASh Q w m->ASh Q w' m) ?_ m;intro n cv cs kv kids ih h;rw[Y5] at h ⊢;obtain⟨h0,h1,h2,h3,h4⟩:=h;refine⟨MSh.map hs hc _ h0,h1.map hs hc,h2,λi hi=>?_,λx hx=>ih x hx (h4 x hx)⟩;obtain⟨c1,⟨q2,q3,q4,q5⟩,c2,c3,c4,c5⟩:=h3 i hi;exact⟨A37 c1 hs,⟨q2,q3,q4,q5⟩,(hc _ _ c1 q2).trans c2,(hc _ _ c1 q3).trans c3,(hc _ _ c1 q4).trans c4,(hc _ _ c1 q5).trans c5⟩
theorem ASh.below {Q:Pl->Prop}{w:World}{m:Aw}(h:ASh Q w m)(hb:Below w.heap.size w w'):ASh Q w' m:=ASh.map hb.size (λb o hl _=>hb.cell (p:=⟨b,o,none⟩) hl) m h
theorem ASh.marked {Q:Pl->Prop}{w:World}{m:Aw}{ps:List Pl}{k:Int}(h:ASh Q w m)(hm:Dk w w' ps k)(hq:∀p∈ps,¬Q p):ASh Q w' m:=ASh.map hm.1 (λb o hl hQ=>hm.2.1 (b,o) hl (λhp=>hq _ hp hQ)) m h
theorem Apq (Q:Pl->Prop)(m:Aw):∀(k:Int) (w:World),ASh Q w m->Gn w m.kps->m.kps.Nodup->(∀p∈m.kps,¬Q p)->0<=k->k+m.kps.length<=4611686018427387904->
  Calls Tryz.prog 11 #[m.kv, .int .i64 k] w λe w'=>e=.returned (.int .i64 (k+m.kps.length))/\Dk w w' m.kps k:=by
 refine J9 (λm=>∀(k:Int) (w:World),ASh Q w m->Gn w m.kps->m.kps.Nodup->(∀p∈m.kps,¬Q p)->0<=k->k+m.kps.length<=4611686018427387904->
  Calls Tryz.prog 11 #[m.kv, .int .i64 k] w λe w'=>e=.returned (.int .i64 (k+m.kps.length))/\Dk w w' m.kps k) ?_ m
 intro nt cv0 cs0 yH kids ih k w hsh hi hnd hq hk0 hkl;have IH:=hid ih;rw[Y5] at hsh;obtain⟨_,_,⟨a,cap,hkv,ha⟩,hcs,hks⟩:=hsh;simp only at hkv ha hcs hks;obtain⟨b,hb⟩:∃b,b=vb yH:=⟨_,rfl⟩
 obtain⟨qs,gK⟩:∃qs,qs=kids.map Aw.inner:=⟨_,rfl⟩
 have jE:(Aw.mk nt cv0 cs0 yH kids).kps=Gp 6 b 0 qs:=by rw[hb,gK];rfl
 rw[jE] at hi hnd hq hkl ⊢;rw[<-hb] at ha hcs;simp only;subst hkv;clear hb jE ih;obtain⟨n,hn⟩:∃n,n=kids.length:=⟨_,rfl⟩
 have HN:=hid hn;have oN:Hid (qs.length=kids.length):=by show _=_;rw[gK];simp
 have gm:Hid (∀i (h:i<qs.length) (h':i<kids.length),qs[i]=kids[i].net.dps++(kids[i].net.rps++(ePs kids[i].cv kids[i].coils++kids[i].kps))):=by
  intro i h h';subst gK;rw[List.getElem_map,Aw.inner_eq]
 have HI:=hid hi;have rU:=hid hnd;have pX:=hid hkl;have HQ:=hid hq;have wP:=hid hcs;have oW:=hid hks;have HA:Hid (0<n->a=some ⟨b,0,none⟩):=by rw[hn];exact ha
 have hnb:n<=4611686018427387904:=by
  have h3:=Aih 6 b qs 0;have:=oN.out
  omega
 rw[<-hn];clear hi hnd hkl ha hn hcs hks hq gK;go_enter Tryz.func11,Tryz.ntmps11
 go_wp2
 go_loopw [1,5] (λkv iv wr=>∃(i:Nat) (L:Nat),i<=n/\L=(Gp 6 b 0 (qs.take i)).length/\kv=.int .i64 (k+L)/\iv=.int .i64 i/\Dk w wr (Gp 6 b 0 (qs.take i)) k) (λ_ iv _=>n - (intOf iv).toNat)
 case atStart=>exact⟨0,0,omz,by simp[Gp],spz,rfl,by simpa[Gp] using Dk.of_below (Below.refl _ _)⟩
 case round=>
  obtain⟨i,L,hi,hL,rfl,rfl,hm⟩:=hrel;have HM:=hid hm;have HL:=hid hL;clear hm hL;by_cases hlt:i<n
  ·have hlk:i<kids.length:=by have:=HN.out;omega
   have hlq:i<qs.length:=by have:=oN.out;omega
   obtain rfl:=HA omz;obtain⟨hbz,⟨hQ2,uX,yu,yl⟩,hav,hnv,hcv,hkv⟩:=wP i hlk;have fP:=oW _ (A4f hlk);have bJ:Gp 6 b 0 qs=Gp 6 b 0 (qs.take i)++(((b,0+i*6)::(b,0+i*6+1)::qs[i])++Gp 6 b (0+(i+1)*6) (qs.drop (i+1))):=by
    rw[Ql 6 b qs 0 (i+1) omz,Tm 6 b qs 0 i hlq,A4w]
   have aU:=hid (Tm 6 b qs 0 i hlq);rw[gm.out i hlq hlk] at bJ aU;have sU:=IH _ (A4f hlk);obtain⟨x,hx⟩:∃x,x=kids[i]:=⟨_,rfl⟩
   rw[<-hx] at bJ aU hav hnv hcv hkv fP sU;have hI:=HI.out;have hN:=rU.out;have hK:=pX.out;have dO:=HQ.out;rw[bJ] at hI hN hK dO;obtain⟨A,hA⟩:∃A,A=Gp 6 b 0 (qs.take i):=⟨_,rfl⟩
   obtain⟨Z,hZ⟩:∃Z,Z=Gp 6 b (0+(i+1)*6) (qs.drop (i+1)):=⟨_,rfl⟩
   rw[<-hA] at hI hN hK HM HL aU dO;rw[<-hZ] at hI hN hK dO;rw[A4h] at hI hN hK dO aU;obtain⟨P,hP⟩:∃P:List Pl,P=[(b,i*6),(b,i*6+1)]:=⟨_,rfl⟩
   obtain⟨D,hD⟩:∃D,D=x.net.dps:=⟨_,rfl⟩
   obtain⟨R,hR⟩:∃R,R=x.net.rps:=⟨_,rfl⟩
   obtain⟨E,hE⟩:∃E,E=ePs x.cv x.coils:=⟨_,rfl⟩
   obtain⟨K,xH⟩:∃K,K=x.kps:=⟨_,rfl⟩
   have oC:((b,i*6)::(b,i*6+1)::(x.net.dps++(x.net.rps++(ePs x.cv x.coils++x.kps))))=P++(D++(R++(E++K))):=by rw[hP,hD,hR,hE,xH];rfl
   rw[oC] at hI hN hK aU dO;have jD:=(Y5 Q w x).1 fP;have nI:Sv x.net.av D:=by rw[hD];exact((Wx Q w x.net).1 jD.1).1
   have hsN:∃a n cap,x.net.kv=.slice a n cap:=by
    obtain⟨a1,c1,h1,_⟩:=((Wx Q w x.net).1 jD.1).2.1;exact⟨a1,_,c1,h1⟩
   have hsE:∃a n cap,x.cv=.slice a n cap:=by
    obtain⟨a1,c1,h1,_⟩:=jD.2.1.1;exact⟨a1,_,c1,h1⟩
   have yS:∃a n cap,x.kv=.slice a n cap:=by
    obtain⟨a1,c1,h1,_⟩:=jD.2.2.1;exact⟨a1,_,c1,h1⟩
   clear bJ hA hZ hx oC jD;have gV:=List.nodup_append.1 hN;have hNP:=List.nodup_append.1 gV.2.1;have jU:=List.nodup_append.1 hNP.1;have o8:=List.nodup_append.1 jU.2.1;have qW:=List.nodup_append.1 o8.2.1;have o7:=List.nodup_append.1 qW.2.1;have mV:Hid (∀p∈A,p∉P++(D++(R++(E++K)))):=λp hp hpq=>gV.2.2 p hp p (A4j _ hpq) rfl
   have kQ:Hid (∀p∈P,p∉D++(R++(E++K))):=λp hp hpq=>jU.2.2 p hp p hpq rfl
   have qy:Hid (∀p∈D,p∉R++(E++K)):=λp hp hpq=>o8.2.2 p hp p hpq rfl
   have HDR:Hid (∀p∈R,p∉E++K):=λp hp hpq=>qW.2.2 p hp p hpq rfl
   have HDE:Hid (∀p∈E,p∉K):=λp hp hpq=>o7.2.2 p hp p hpq rfl
   have kF:=(hI.right.left).marked HM (λp hp hpa=>gV.2.2 p hpa p (A4j _ hp) rfl);have iW:=kF.left;have wI:=hid (λp hp=>(iW p hp).1);have wJ:=hid kF.right.left;have HIR:=hid kF.right.right.left;have HIE:=hid kF.right.right.right.left;have jf:=hid kF.right.right.right.right;have tK:=hid (λp hp=>(hI.left p hp).1);have lG:=λp hp=>dO p (A4j _ hp)
   have lW:=λp hp=>dO p (A4g _ (A4j _ hp))
   have HQP:=hid (λp hp=>lW p (A4j _ hp));have vW:=hid (λp hp=>lW p (A4g _ (A4j _ hp)));have qf:=hid (λp hp=>lW p (A4g _ (A4g _ (A4j _ hp))));have HQE:=hid (λp hp=>lW p (A4g _ (A4g _ (A4g _ (A4j _ hp)))));have hQK:=λp hp=>lW p (A4g _ (A4g _ (A4g _ (A4g _ hp))))
   have hc2:wr.cell? ⟨b,i*6+2,none⟩=some x.net.av:=(HM.2.1 (b,i*6+2) hbz (λh=>lG _ h hQ2)).trans hav;have hc3:wr.cell? ⟨b,i*6+3,none⟩=some x.net.kv:=(HM.2.1 (b,i*6+3) hbz (λh=>lG _ h uX)).trans hnv;have hc4:wr.cell? ⟨b,i*6+4,none⟩=some x.cv:=(HM.2.1 (b,i*6+4) hbz (λh=>lG _ h yu)).trans hcv;have hc5:wr.cell? ⟨b,i*6+5,none⟩=some x.kv:=(HM.2.1 (b,i*6+5) hbz (λh=>lG _ h yl)).trans hkv;have HSX:=hid (fP.marked HM lG);have hLn:=HL.out;have hPl:P.length=2:=by rw[hP];rfl
   simp only[A38] at hK;have HC:=hid (λW hW=>Xf x.net.av D (k+L+2) W nI hW o8.1 omz omz omz);have HC2:Hid (∀W,ASh Q W x->Gn W R->Calls Tryz.prog 26 #[x.net.kv, .int .i64 (k+L+2+D.length)] W λe w'=>e=.returned (.int .i64 (k+L+2+D.length+R.length))/\Dk W w' R (k+L+2+D.length)):=by
    intro W h1 h2;rw[hR] at h2 ⊢;exact Apo Q x.net _ W ((Y5 Q W x).1 h1).1 h2 (by rw[<-hR];exact qW.1) (by rw[<-hR];exact qf.out) omz (by rw[<-hR];omega)
   have wU:Hid (∀W,ASh Q W x->Gn W E->Calls Tryz.prog 27 #[x.cv, .int .i64 (k+L+2+D.length+R.length)] W λe w'=>e=.returned (.int .i64 (k+L+2+D.length+R.length+E.length))/\Dk W w' E (k+L+2+D.length+R.length)):=by
    intro W h1 h2;rw[hE] at h2 ⊢;exact Aln Q x.cv x.coils _ W ((Y5 Q W x).1 h1).2.1 h2 (by rw[<-hE];exact o7.1) (by rw[<-hE];exact HQE.out) omz (by rw[<-hE];omega)
   have HC4:Hid (∀W,ASh Q W x->Gn W K->Calls Tryz.prog 11 #[x.kv, .int .i64 (k+L+2+D.length+R.length+E.length)] W λe w'=>e=.returned (.int .i64 (k+L+2+D.length+R.length+E.length+K.length))/\Dk W w' K (k+L+2+D.length+R.length+E.length)):=by
    intro W h1 h2;rw[xH] at h2 ⊢;exact sU _ W h1 h2 (by rw[<-xH];exact o7.2.1) (by rw[<-xH];exact hQK) omz (by rw[<-xH];omega)
   obtain⟨⟨hb0,⟨n0,c0⟩,f0⟩,⟨_,⟨n1,c1⟩,f1⟩⟩:(b<wr.heap.size/\(∃n,wr.cell? ⟨b,i*6,none⟩=some (.int .i64 n))/\wr.frozen? ⟨b,i*6,none⟩=false)/\(b<wr.heap.size/\(∃n,wr.cell? ⟨b,i*6+1,none⟩=some (.int .i64 n))/\wr.frozen? ⟨b,i*6+1,none⟩=false):=
    ⟨iW (b,i*6) (by rw[hP];simp),iW (b,i*6+1) (by rw[hP];simp)⟩
   have iO:Hid (Dk wr ((wr.setCell ⟨b,i*6,none⟩ (.int .i64 (k+L))).setCell ⟨b,i*6+1,none⟩ (.int .i64 (k+L+1))) P (k+L)):=by rw[hP];exact Dk.two (k+L) hb0 c0 c1
   have gX:=hid hPl;have xK:Hid (Q (b,i*6+3)/\Q (b,i*6+4)/\Q (b,i*6+5)):=⟨uX,yu,yl⟩
   have hkb:k+L+2<=4611686018427387904:=omz
   obtain⟨jy,jC⟩:∃v,v=x.net.av:=⟨_,rfl⟩
   obtain⟨xnv,yN⟩:∃v,v=x.net.kv:=⟨_,rfl⟩
   obtain⟨xcv,yO⟩:∃v,v=x.cv:=⟨_,rfl⟩
   obtain⟨xR,mY⟩:∃v,v=x.kv:=⟨_,rfl⟩
   rw[<-jC] at hc2 HC nI;rw[<-yN] at hc3 HC2 hsN;rw[<-yO] at hc4 wU hsE;rw[<-mY] at hc5 HC4 yS;obtain⟨a',n',cap',rfl,hz1,hz2⟩:=nI;obtain⟨aN,nN,cN,rfl⟩:=hsN;obtain⟨aE,nE,cE,rfl⟩:=hsE;obtain⟨aK,nK,cK,rfl⟩:=yS;clear hz1 hz2 hI hN hK gV hNP jU o8 qW o7 kF iW hav hnv hcv hkv hP hLn lG hQK lW dO fP sU hQ2 uX yu yl jC yN yO mY hD hR hE xH;have w1:IntKind.i64.wrap (k+(L:Int)+1)=k+L+1:=by rw[IntKind.wrap_i64];omega
   have w2:IntKind.i64.wrap (k+(L:Int)+1+1)=k+L+2:=by rw[IntKind.wrap_i64];omega
   go_wp2_with (go_at_call 25;refine(HC _ (wJ.marked iO (λp hp hpp=>kQ p hpp (A4j _ hp)))).mono ?_;rintro e w3 ⟨rfl,fU⟩;have hb3:=A37 (by simpa using hb0) fU.1;have g3:w3.cell? ⟨b,i*6+3,none⟩=some (.slice aN nN cN):=(fU.2.1 (b,i*6+3) (by simpa using hb0) (λh=>vW _ h xK.1)).trans ((Bh omz).trans ((Bh omz).trans hc3));have g4:w3.cell? ⟨b,i*6+4,none⟩=some (.slice aE nE cE):=(fU.2.1 (b,i*6+4) (by simpa using hb0) (λh=>vW _ h xK.2.1)).trans ((Bh omz).trans ((Bh omz).trans hc4));have g5:w3.cell? ⟨b,i*6+5,none⟩=some (.slice aK nK cK):=(fU.2.1 (b,i*6+5) (by simpa using hb0) (λh=>vW _ h xK.2.2)).trans ((Bh omz).trans ((Bh omz).trans hc5)))
   have HS3:=hid ((HSX.marked iO HQP.out).marked fU vW.out);have HR3:=hid ((HIR.marked iO (λp hp hpp=>kQ p hpp (A4g _ (A4j _ hp)))).marked fU (λp hp lM=>qy p lM (A4j _ hp)));have HE3:=hid ((HIE.marked iO (λp hp hpp=>kQ p hpp (A4g _ (A4g _ (A4j _ hp))))).marked fU (λp hp lM=>qy p lM (A4g _ (A4j _ hp))));have HK3:=hid ((jf.marked iO (λp hp hpp=>kQ p hpp (A4g _ (A4g _ (A4g _ hp))))).marked fU (λp hp lM=>qy p lM (A4g _ (A4g _ hp))));have wC:Hid (Dk w w3 (A++(P++D)) k):=by
    refine Dk.append HM.out ?_ tK (λp hp hq=>mV p hp (by rcases List.mem_append.1 hq with h | h;exact A4j _ h;exact A4g _ (A4j _ h)));rw[<-HL.out];refine Dk.append iO.out ?_ wI (λp hp hq=>kQ p hp (A4j _ hq));rw[gX.out];exact fU
   have HID3:=hid (λp hp=>A37 (wJ p hp).1 (A4k iO.1 fU.1));clear fU hc2 hc3 hc4 hc5 c0 c1 f0 f1
   go_wp2_with (go_at_call 26;refine(HC2 _ HS3 HR3.out).mono ?_;rintro e w4 ⟨rfl,hm4⟩;have hb4:=A37 hb3 hm4.1;have g4':w4.cell? ⟨b,i*6+4,none⟩=some (.slice aE nE cE):=(hm4.2.1 (b,i*6+4) hb3 (λh=>qf _ h xK.2.1)).trans g4;have g5':w4.cell? ⟨b,i*6+5,none⟩=some (.slice aK nK cK):=(hm4.2.1 (b,i*6+5) hb3 (λh=>qf _ h xK.2.2)).trans g5)
   have HS4:=hid (HS3.marked hm4 qf.out);have HE4:=hid (HE3.marked hm4 (λp hp lM=>HDR p lM (A4j _ hp)));have HK4:=hid (HK3.marked hm4 (λp hp lM=>HDR p lM (A4g _ hp)));have wB:=hid hm4;clear hm4 g3 g4 g5
   go_wp2_with (go_at_call 27;refine(wU _ HS4 HE4.out).mono ?_;rintro e w5 ⟨rfl,xC⟩;have hb5:=A37 hb4 xC.1;have g5'':w5.cell? ⟨b,i*6+5,none⟩=some (.slice aK nK cK):=(xC.2.1 (b,i*6+5) hb4 (λh=>HQE _ h xK.2.2)).trans g5')
   have HS5:=hid (HS4.marked xC HQE.out);have jc:=hid (HK4.marked xC (λp hp lM=>HDE p lM hp));have HM5:=hid xC;clear xC g4' g5'
   go_wp2_with (go_at_call 11;refine(HC4 _ HS5 jc.out).mono ?_;rintro e w6 ⟨rfl,hm6⟩)
   refine⟨⟨i+1,L+2+D.length+R.length+E.length+K.length,omz,?_,?_,by go_num,?_⟩,by simp[intOf];omega⟩
   ·rw[aU.out,A38,A38,A38,A38,A38,gX.out,<-HL.out];omega
   ·congr 1;omega
   ·have e1:A++(P++(D++(R++(E++K))))=(A++(P++D))++(R++(E++K)):=by simp
    rw[aU.out,e1];have eL:k+((A++(P++D)).length:Int)=k+L+2+D.length:=by rw[A38,A38,gX.out,<-HL.out];omega
    refine Dk.append wC.out ?_ ?_ ?_
    ·rw[eL]
     refine Dk.append wB.out ?_ (λp hp=>(HR3 p hp).1) HDR.out;exact Dk.append HM5 hm6 (λp hp=>(HE4 p hp).1) HDE.out
    ·intro p hp
     rcases List.mem_append.1 hp with hp | hp
     ·exact tK p hp
     ·have hz:wr.heap.size=w.heap.size\/w.heap.size<=wr.heap.size:=.inr HM.1
      rcases List.mem_append.1 hp with hp | hp
      ·exact(HI p (by rw[Ql 6 b qs 0 (i+1) omz,aU.out];exact A4j _ (A4g _ (A4j _ hp)))).1
      ·exact(HI p (by rw[Ql 6 b qs 0 (i+1) omz,aU.out];exact A4j _ (A4g _ (A4g _ (A4j _ hp))))).1
    ·intro p hp hq
     rcases List.mem_append.1 hp with hp | hp
     ·exact mV p hp (A4g _ (A4g _ hq))
     ·rcases List.mem_append.1 hp with hp | hp
      ·exact kQ p hp (A4g _ hq)
      ·exact qy p hp hq
  ·exact zc0
def A2r (t o:Nat):Prop:=match t with
 | 0=>True
 | 1=>o % 4<2
 | 2=>o % 2=0
 | _=>o % 6<2
abbrev Tg:=Value × Nat
def Ah.tags:Ah->List Tg
 | ⟨_,_,_,av,kv,kids⟩=>(av,0)::(kv,1)::(kids.map Ah.tags).flatten
theorem Ah.tags_eq (m:Ah):m.tags=(m.av,0)::(m.kv,1)::(m.kids.map Ah.tags).flatten:=by obtain⟨k,op,ds,av,kv,kids⟩:=m;rw[Ah.tags]
theorem Ah.tags_vals (m:Ah):m.tags.map (·.1)=m.vals:=by
 refine Ja (λm=>m.tags.map (·.1)=m.vals) ?_ m;intro k op ds av kv kids ih;rw[Ah.tags_eq,Ah.vals_eq];simp only[A4q,List.map_flatten,List.map_map,Ew];congr 3;exact List.map_congr_left (λx hx=>ih x hx)
def Aw.tags:Aw->List Tg
 | ⟨n,cv,cs,kv,kids⟩=>n.tags++(((cv,2)::cs.map (λm=>(m.av,0)))++((kv,3)::(kids.map Aw.tags).flatten))
theorem Aw.tags_eq (m:Aw):m.tags=m.net.tags++(((m.cv,2)::m.coils.map (λm=>(m.av,0)))++((m.kv,3)::(m.kids.map Aw.tags).flatten)):=by obtain⟨n,cv,cs,kv,kids⟩:=m;rw[Aw.tags]
theorem Aw.tags_vals (m:Aw):m.tags.map (·.1)=m.vals:=by
 refine J9 (λm=>m.tags.map (·.1)=m.vals) ?_ m;intro n cv cs kv kids ih;rw[Aw.tags_eq,Aw.vals_eq];simp only[A4m,A4q,List.map_flatten,List.map_map,Gj,Ah.tags_vals];congr 2
 ·congr 2
  exact List.map_congr_left (λx hx=>ih x hx)
theorem Ah.rows_tags (m:Ah):∀v∈m.rows,(v,1)∈m.tags:=by
 refine Ja (λm=>∀v∈m.rows,(v,1)∈m.tags) ?_ m;intro k op ds av kv kids ih v hv;rw[Ah.rows_eq] at hv;rw[Ah.tags_eq];rcases List.mem_cons.1 hv with hv | hv
 ·simp[hv]
 ·obtain⟨l,hl,hv⟩:=List.mem_flatten.1 hv
  obtain⟨x,hx,rfl⟩:=List.mem_map.1 hl;exact A4c _ (A4c _ (List.mem_flatten.2 ⟨_,List.mem_map.2 ⟨x,hx,rfl⟩,ih x hx v hv⟩))
def Qp (ts:List Tg)(p:Pl):Prop:=∃t∈ts,t.1.ownBlock=some p.1/\¬A2r t.2 p.2
def Adb (ts:List Tg)(p:Pl):Prop:=∃t∈ts,t.1.ownBlock=some p.1/\A2r t.2 p.2
theorem Axe {ts:List Tg}(h:(ts.map (·.1)).Pairwise Aside){t u:Tg}(ht:t∈ts)(hu:u∈ts){k:Nat}(h1:t.1.ownBlock=some k)(h2:u.1.ownBlock=some k):t=u:=by
 obtain⟨i,hi,rfl⟩:=List.getElem_of_mem ht;obtain⟨j,hj,rfl⟩:=List.getElem_of_mem hu;rw[List.pairwise_map] at h;have hp:=List.pairwise_iff_getElem.1 h;rcases Nat.lt_trichotomy i j with e | e | e
 ·exact((hp i j hi hj e).no h1 h2).elim
 ·subst e;rfl
 ·exact((hp j i hj hi e).no h2 h1).elim
theorem Apv {ts:List Tg}(h:(ts.map (·.1)).Pairwise Aside){p:Pl}(h1:Adb ts p):¬Qp ts p:=by
 rintro⟨u,hu,hb,hn⟩;obtain⟨t,ht,hb2,hn2⟩:=h1;have e:=Axe h ht hu hb2 hb;rw[e] at hn2;exact hn hn2
theorem Adb.mono {ts us:List Tg}{p:Pl}(h:Adb ts p)(hs:∀t∈ts,t∈us):Adb us p:=by
 obtain⟨t,ht,h1⟩:=h;exact⟨t,hs t ht,h1⟩
theorem Qp.mono {ts us:List Tg}{p:Pl}(h:Qp ts p)(hs:∀t∈ts,t∈us):Qp us p:=by
 obtain⟨t,ht,h1⟩:=h;exact⟨t,hs t ht,h1⟩
theorem Ah.nums {w:World}(m:Ah):MOk w base m->∀p∈m.inner,Adb m.tags p:=by
 refine Ja (λm=>MOk w base m->∀p∈m.inner,Adb m.tags p) ?_ m;intro k op ds av kv kids ih h p hp;obtain⟨hA,hK,hkids⟩:=(H5 _ _ _).1 h;simp only at hA hK hkids;rw[Ah.inner_eq] at hp;rw[Ah.tags_eq];rcases List.mem_append.1 hp with hp | hp
 ·exact⟨(av,0),spz,((Mc hA).2.2 p hp).2,trivial⟩
 ·rcases Ov 4 _ _ 0 p hp with⟨i,hi,hp⟩ | ⟨q,hq,hp⟩
  ·have hi':i<kids.length:=by simpa using hi
   obtain⟨g,cap,hv,_⟩:=Az hK omz;have hg:kv.ownBlock=some (vb kv):=by rw[hv];rfl
   refine⟨(kv,1),spz,?_,?_⟩
   ·rcases hp with rfl | rfl<;>exact hg
   ·rcases hp with rfl | rfl
    ·show(0+i*4) % 4<2;omega
    ·show(0+i*4+1) % 4<2;omega
  ·obtain⟨x,hx,rfl⟩:=List.mem_map.1 hq
   exact(ih x hx (hkids x hx) p hp).mono (λt ht=>A4c _ (A4c _ (List.mem_flatten.2 ⟨_,List.mem_map.2 ⟨x,hx,rfl⟩,ht⟩)))
theorem Ajs {w:World}{es:List Df}(h1:w.ownsRow base 49 2 v es.length (Gh es))(h2:∀m∈es,EOk w base m):∀p∈ePs v es,Adb ((v,2)::es.map (λm=>(m.av,0))) p:=by
 intro p hp;rcases Ab8 _ _ 0 p hp with⟨i,hi,hp⟩ | ⟨q,hq,hp⟩
 ·have hi':i<es.length:=by simpa using hi
  obtain⟨g,cap,hv,_⟩:=Az h1 omz;have hg:v.ownBlock=some (vb v):=by rw[hv];rfl
  subst hp;refine⟨(v,2),spz,hg,?_⟩;show(0+i*2) % 2=0
  omega
 ·obtain⟨x,hx,rfl⟩:=List.mem_map.1 hq
  exact⟨(x.av,0),A4c _ (List.mem_map.2 ⟨x,hx,rfl⟩),((Mc (h2 x hx)).2.2 p hp).2,trivial⟩
theorem Aw.nums {w:World}(m:Aw):AOk w base m->∀p∈m.inner,Adb m.tags p:=by
 refine J9 (λm=>AOk w base m->∀p∈m.inner,Adb m.tags p) ?_ m;intro n cv cs kv kids ih h p hp;obtain⟨hN,⟨hC,hCs⟩,hK,hkids⟩:=(Hf _ _ _).1 h;simp only at hN hC hCs hK hkids;rw[Aw.inner_eq] at hp;rw[Aw.tags_eq];simp only at hp ⊢;rw[<-A4w,<-Ah.inner_eq] at hp;rcases List.mem_append.1 hp with hp | hp
 ·exact(n.nums hN p hp).mono (λt ht=>A4j _ ht)
 rcases List.mem_append.1 hp with hp | hp
 ·exact(Ajs hC hCs p hp).mono (λt ht=>A4g _ (A4j _ ht))
 ·rcases Ov 6 _ _ 0 p hp with⟨i,hi,hp⟩ | ⟨q,hq,hp⟩
  ·have hi':i<kids.length:=by simpa using hi
   obtain⟨g,cap,hv,_⟩:=Az hK omz;have hg:kv.ownBlock=some (vb kv):=by rw[hv];rfl
   refine⟨(kv,3),spz,?_,?_⟩
   ·rcases hp with rfl | rfl<;>exact hg
   ·rcases hp with rfl | rfl
    ·show(0+i*6) % 6<2;omega
    ·show(0+i*6+1) % 6<2;omega
  ·obtain⟨x,hx,rfl⟩:=List.mem_map.1 hq
   exact(ih x hx (hkids x hx) p hp).mono (λt ht=>A4g _ (A4g _ (A4c _ (List.mem_flatten.2 ⟨_,List.mem_map.2 ⟨x,hx,rfl⟩,ht⟩))))
theorem ASh.mono {Q Q':Pl->Prop}{w:World}(hq:∀p,Q p->Q' p)(m:Aw):ASh Q w m->ASh Q' w m:=by
 refine J9 (λm=>ASh Q w m->ASh Q' w m) ?_ m;intro n cv cs kv kids ih h;rw[Y5] at h ⊢;obtain⟨h0,⟨e1,e2⟩,h2,h3,h4⟩:=h;refine⟨MSh.mono hq _ h0,⟨e1,λi hi=>?_⟩,h2,λi hi=>?_,λx hx=>ih x hx (h4 x hx)⟩
 ·obtain⟨c1,c2,c3,c4⟩:=e2 i hi
  exact⟨c1,hq _ c2,c3,c4⟩
 ·obtain⟨c1,⟨q2,q3,q4,q5⟩,c2⟩:=h3 i hi
  exact⟨c1,⟨hq _ q2,hq _ q3,hq _ q4,hq _ q5⟩,c2⟩
theorem Amm {w:World}{es:List Df}(h:Pg w base v es):ESh (Qp ((v,2)::es.map (λm=>(m.av,0)))) w v es/\Gn w (ePs v es)/\(ePs v es).Nodup:=by
 obtain⟨h1,h2,hp⟩:=h;rw[A4u] at hp;have jG:0<es.length->v.ownBlock=some (vb v):=by
  intro hz;obtain⟨g,cap,hv,_⟩:=Az h1 hz;rw[hv];rfl
 refine⟨⟨?_,λi hi=>?_⟩,λp hp2=>?_,?_⟩
 ·by_cases hz:es.length=0
  ·obtain⟨a,cap,rfl⟩:=Af h1
   exact⟨a,cap,rfl,λh=>absurd h omz⟩
  ·obtain⟨g,cap,hv,_⟩:=Az h1 omz
   refine⟨some ⟨g,0,none⟩,cap,hv,λ_=>?_⟩;rw[hv];rfl
 ·obtain⟨g,cap,hv,_,hlt,_,hcell⟩:=Az h1 omz
  have e:vb v=g:=by rw[hv];rfl
  obtain⟨_,a2⟩:=Qd es i hi;rw[e];refine⟨hlt,⟨(v,2),spz,by rw[hv];rfl,?_⟩,hcell _ _ a2,(Mc (h2 _ (A4f hi))).1⟩;show ¬(i*2+1) % 2=0
  omega
 ·rcases Ab8 _ _ 0 p hp2 with⟨i,hi,hp3⟩ | ⟨q,hq,hp3⟩
  ·have hi':i<es.length:=by simpa using hi
   obtain⟨g,cap,hv,_,hlt,_,hcell⟩:=Az h1 omz;have e:vb v=g:=by rw[hv];rfl
   obtain⟨a1,_⟩:=Qd es i hi';subst hp3;rw[e];subst hv;exact⟨hlt,⟨_,by rw[ad];simp only[A4h];exact hcell _ _ a1⟩,h1.frozenAt _⟩
  ·obtain⟨x,hx,rfl⟩:=List.mem_map.1 hq
   exact(Mc (h2 x hx)).2.1 p hp3
 ·refine Af9 _ _ 0 (λq hq=>?_) ?_
  ·obtain⟨x,hx,rfl⟩:=List.mem_map.1 hq
   refine⟨U5 _ _,λp hp3 e=>?_⟩;have h3:=((Mc (h2 x hx)).2.2 p hp3).2;rw[e] at h3;exact(hp.1 x.av (Jd.2 ⟨x,hx,rfl⟩)).no (jG (List.length_pos_of_mem hx)) h3
  ·rw[List.pairwise_map]
   have hpe:=hp.2;unfold Ff at hpe;rw[List.pairwise_map] at hpe;refine List.Pairwise.imp_of_mem (fun {a b} ha hb hab p hp3 hp4=>?_) hpe;exact hab.no ((Mc (h2 a ha)).2.2 p hp3).2 ((Mc (h2 b hb)).2.2 p hp4).2
theorem Adb.val {ts:List Tg}{p:Pl}(h:Adb ts p):∃x∈ts.map (·.1),x.ownBlock=some p.1:=by
 obtain⟨t,ht,h1,_⟩:=h;exact⟨t.1,List.mem_map.2 ⟨t,ht,rfl⟩,h1⟩
theorem Af7 (v:Value)(es:List Df):((v,2)::es.map (λm=>(m.av,0)):List Tg).map (·.1)=v::Ff es:=by
 simp[Ff,Function.comp]
theorem Aw.nums_at {w:World}(m:Aw):Ic w base m->ASh (Qp m.tags) w m/\Gn w m.inner/\m.inner.Nodup:=by
 refine J9 (λm=>Ic w base m->ASh (Qp m.tags) w m/\Gn w m.inner/\m.inner.Nodup) ?_ m;intro n cv cs kv kids ih h;obtain⟨hok,hpw⟩:=h;obtain⟨hN,⟨hC,hCs⟩,hK,hkids⟩:=(Hf _ _ _).1 hok;simp only at hN hC hCs hK hkids;rw[Aw.vals_eq] at hpw;simp only at hpw;obtain⟨pN,pR,pO⟩:=List.pairwise_append.1 hpw;obtain⟨pC,pK,mW⟩:=List.pairwise_append.1 pR;obtain⟨uk,pKs⟩:=List.pairwise_cons.1 pK;have qB:=pKs;unfold Gj at qB;rw[List.pairwise_flatten] at qB;have hown:∀x∈kids,Ic w base x:=λx hx=>⟨hkids x hx,qB.1 _ (List.mem_map.2 ⟨x,hx,rfl⟩)⟩
 have hvm:∀x∈kids,∀v∈x.vals,v∈Gj kids:=λx hx v hv=>Io.2 ⟨x,hx,hv⟩
 obtain⟨nS,nN,nD,_,_⟩:=Ah.places n ⟨hN,pN⟩;obtain⟨eS,eN,eD⟩:=Amm (v:=cv) (es:=cs) ⟨hC,hCs,pC⟩;have hnn:=n.nums hN;have hen:=Ajs hC hCs;have jG:0<kids.length->kv.ownBlock=some (vb kv):=by
  intro hz;obtain⟨g,cap,hv,_⟩:=Az hK hz;rw[hv];rfl
 have hkn:∀x∈kids,∀p∈x.inner,∃v∈x.vals,v.ownBlock=some p.1:=by
  intro x hx p hp;obtain⟨v,hv,hb⟩:=(x.nums (hkids x hx) p hp).val;rw[Aw.tags_vals] at hv;exact⟨v,hv,hb⟩
 have zH:∀p∈(Aw.mk n cv cs kv kids).kps,∃v∈kv::Gj kids,v.ownBlock=some p.1:=by
  intro p hp;rcases Ov 6 _ _ 0 p hp with⟨i,hi,hp⟩ | ⟨q,hq,hp⟩
  ·have hi':i<kids.length:=by simpa using hi
   refine⟨kv,spz,?_⟩;rcases hp with rfl | rfl<;>exact jG omz
  ·obtain⟨x,hx,rfl⟩:=List.mem_map.1 hq
   obtain⟨v,hv,hb⟩:=hkn x hx p hp;exact⟨v,A4c _ (hvm x hx v hv),hb⟩
 have hin:(Aw.mk n cv cs kv kids).inner=n.inner++(ePs cv cs++(Aw.mk n cv cs kv kids).kps):=by
  rw[Aw.inner_eq,<-A4w,<-Ah.inner_eq]
 refine⟨?_,?_,?_⟩
 ·rw[Y5]
  refine⟨MSh.mono (λp hp=>?_) n nS,⟨eS.1,λi hi=>?_⟩,?_,λi hi=>?_,λx hx=>ASh.mono (λp hp=>hp.mono (λt ht=>?_)) x (ih x hx (hown x hx)).1⟩
  ·obtain⟨h4,v,hv,hb⟩:=hp
   refine⟨(v,1),?_,hb,?_⟩
   ·rw[Aw.tags_eq];exact A4j _ (n.rows_tags v hv)
   ·show ¬p.2 % 4<2
    omega
  ·obtain⟨c1,c2,c3,c4⟩:=eS.2 i hi
   exact⟨c1,c2.mono (λt ht=>by rw[Aw.tags_eq];exact A4g _ (A4j _ ht)),c3,c4⟩
  ·exact zl0
  ·simp only at hi ⊢
   obtain⟨g,cap,hv,_,hlt,_,hcell⟩:=Az hK omz;have e:vb kv=g:=by rw[hv];rfl
   have hg:kv.ownBlock=some g:=by rw[hv];rfl
   rw[e];obtain⟨_,_,a3,a4,a5,a6⟩:=Na kids i hi;have hh:∀o,¬o % 6<2->Qp (Aw.mk n cv cs kv kids).tags (g,o):=λo ho=>⟨(kv,3),by rw[Aw.tags_eq];simp,hg,ho⟩
   exact⟨hlt,⟨hh _ omz,hh _ omz,hh _ omz,hh _ omz⟩,hcell _ _ a3,hcell _ _ a4,hcell _ _ a5,hcell _ _ a6⟩
  ·rw[Aw.tags_eq]
   exact A4g _ (A4g _ (A4c _ (List.mem_flatten.2 ⟨_,List.mem_map.2 ⟨x,hx,rfl⟩,ht⟩)))
 ·rw[hin]
  intro p hp;rcases List.mem_append.1 hp with hp | hp
  ·exact nN p hp
  rcases List.mem_append.1 hp with hp | hp
  ·exact eN p hp
  ·rcases Ov 6 _ _ 0 p hp with⟨i,hi,sD⟩ | ⟨q,hq,sD⟩
   ·have hi':i<kids.length:=by simpa using hi
    obtain⟨g,cap,hv,_,hlt,_,hcell⟩:=Az hK omz;have e:vb kv=g:=by rw[hv];rfl
    have hfz:=λo=>by
     rw[hv] at hK;exact hK.frozenAt o
    simp only[e] at sD;obtain⟨a1,a2,_,_,_,_⟩:=Na kids i hi';rcases sD with sD | sD
    ·rw[sD]
     exact⟨hlt,⟨_,by rw[ad];simp only[A4h];exact hcell _ _ a1⟩,hfz _⟩
    ·rw[sD]
     exact⟨hlt,⟨_,by rw[ad];simp only[A4h];exact hcell _ _ a2⟩,hfz _⟩
   ·obtain⟨x,hx,rfl⟩:=List.mem_map.1 hq
    exact(ih x hx (hown x hx)).2.1 p sD
 ·rw[hin,A49]
  refine⟨nD,List.nodup_append.2 ⟨eD,Yi 6 _ omz _ 0 (λq hq=>?_) ?_,λp hp r hr e=>?_⟩,λp hp r hr e=>?_⟩
  ·obtain⟨x,hx,rfl⟩:=List.mem_map.1 hq
   refine⟨(ih x hx (hown x hx)).2.2,λp hp e=>?_⟩;obtain⟨v,hv,hb⟩:=hkn x hx p hp;simp only at e;rw[e] at hb;exact(uk v (hvm x hx v hv)).no (jG (List.length_pos_of_mem hx)) hb
  ·rw[List.pairwise_map]
   refine List.pairwise_iff_getElem.2 (λi j hi hj hij p hp hp2=>?_);have hx:=A4f hi;have hy:=A4f hj;obtain⟨u,hu,h1⟩:=hkn _ hx p hp;obtain⟨v,hv,h2⟩:=hkn _ hy p hp2;have hpp:=qB.2;rw[List.pairwise_map] at hpp;exact((List.pairwise_iff_getElem.1 hpp) i j hi hj hij u hu v hv).no h1 h2
  ·subst e
   obtain⟨u,hu,h1⟩:=(hen p hp).val;rw[Af7] at hu;obtain⟨v,hv,h2⟩:=zH p hr;exact(mW u hu v hv).no h1 h2
  ·subst e
   obtain⟨u,hu,h1⟩:=(hnn p hp).val;rw[Ah.tags_vals] at hu;rcases List.mem_append.1 hr with hr | hr
   ·obtain⟨v,hv,h2⟩:=(hen p hr).val
    rw[Af7] at hv;exact(pO u hu v (A4j _ hv)).no h1 h2
   ·obtain⟨v,hv,h2⟩:=zH p hr
    exact(pO u hu v (A4g _ hv)).no h1 h2
theorem Aw.places {w:World}(m:Aw)(h:Ic w base m):ASh (Qp m.tags) w m/\Gn w m.inner/\m.inner.Nodup/\(∀p∈m.inner,base<=p.1)/\(∀p∈m.inner,¬Qp m.tags p)/\∀p,Qp m.tags p->base<=p.1:=by
 obtain⟨h1,h2,h3⟩:=m.nums_at h;refine⟨h1,h2,h3,λp hp=>?_,λp hp=>?_,λp hp=>?_⟩
 ·obtain⟨v,hv,hb⟩:=(m.nums h.1 p hp).val
  rw[Aw.tags_vals] at hv;exact(h.1.lt m v hv _ hb).1
 ·exact Apv (by rw[Aw.tags_vals];exact h.2) (m.nums h.1 p hp)
 ·obtain⟨t,ht,hb,_⟩:=hp
  refine(h.1.lt m t.1 ?_ _ hb).1;rw[<-Aw.tags_vals];exact List.mem_map.2 ⟨t,ht,rfl⟩
end Go.Proofs.YtbfljjcnbbmoaaaGreatDoor
