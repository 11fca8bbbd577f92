import Derived.Test.YtmnnkedjoecehaaGreatDoorGe
set_option maxHeartbeats 4000000
set_option maxRecDepth 100000
namespace Go.Proofs.YtmnnkedjoecehaaGreatDoor
open Tryz Go.RowKit Go.Sort Go.BigFrame
variable {base:Nat}{rv sv u v:Value}{us:List Value}{w':World}
def Kt (us:List Value)(cs:List Stil.Gf):List Value:=(us.zip cs).flatMap λp=>[AB p.2.code,AB p.2.one.op,p.1]
theorem pU (us:List Value)(cs:List Stil.Gf)(u:Value)(x:Stil.Gf)(h:us.length=cs.length):Kt (us++[u]) (cs++[x])=Kt us cs++[AB x.code,AB x.one.op,u]:=by
 unfold Kt;rw[List.zip_append h,List.flatMap_append];rfl
def Apart (u v:Value):Prop:=u.ownBlock=none\/u.ownBlock≠v.ownBlock
theorem Apart.symm (h:Apart u v):Apart v u:=by
 rcases h with h | h
 ·by_cases e:v.ownBlock=none
  ·exact .inl e
  ·exact .inr (by rw[h];exact e)
 ·exact .inr (λe=>h e.symm)
def Td (w:World)(base:Nat)(rv:Value)(us:List Value)(cs:List Stil.Gf):Prop:=us.length=cs.length/\w.ownsRow base 48 3 rv cs.length (Kt us cs)/\
 ∀i (h:i<us.length) (a:i<cs.length),w.ownsRow base 111 3 us[i] cs[i].one.args.length (Ar cs[i].one.args)
theorem Td.below {w:World}{cs:List Stil.Gf}(h:Td w base rv us cs)(a:AO w w'):Td w' base rv us cs:=
 ⟨h.1,ownsRow_below h.2.1 a,λi b c=>ownsRow_below (h.2.2 i b c) a⟩
theorem Td.kept {w:World}{x:Value}{cs:List Stil.Gf}(h:Td w base rv us cs)(hg:w.grownBy w' x.ownBlock)(h1:Apart rv x)(b:∀u∈us,Apart u x):Td w' base rv us cs:=
 ⟨h.1,h.2.1.kept hg h1,λi hi a=>(h.2.2 i hi a).kept hg (b _ (CJ hi))⟩
theorem Td.lt {w:World}{cs:List Stil.Gf}(h:Td w base rv us cs):∀x∈rv::us,∀k,x.ownBlock=some k->base<=k/\k<w.heap.size:=by
 intro x a k b;rcases List.mem_cons.1 a with rfl | a
 ·exact h.2.1.lt k b
 ·obtain⟨i,hi,rfl⟩:=List.getElem_of_mem a
  exact(h.2.2 i hi (by have:=h.1;omega)).lt k b
abbrev Rg:=Value × List Value × List Stil.Gf
def Jv (f:Rg):List Value:=f.1::f.2.1
def Vx (w:World)(base:Nat)(sv rv:Value)(us:List Value)(cs:List Stil.Gf)(fin:List Rg):Prop:=
 Td w base rv us cs/\(∀f∈fin,Td w base f.1 f.2.1 f.2.2)/\w.ownsRow base 25 1 sv fin.length (fin.map (·.1))/\(sv::rv::(us++fin.flatMap Jv)).Pairwise Apart
theorem Vx.below {w:World}{cs:List Stil.Gf}{fin:List Rg}(h:Vx w base sv rv us cs fin)(a:AO w w'):Vx w' base sv rv us cs fin:=
 ⟨h.1.below a,λf b=>(h.2.1 f b).below a,ownsRow_below h.2.2.1 a,h.2.2.2⟩
theorem Vx.lt {w:World}{cs:List Stil.Gf}{fin:List Rg}(h:Vx w base sv rv us cs fin):∀x∈sv::rv::(us++fin.flatMap Jv),∀k,x.ownBlock=some k->base<=k/\k<w.heap.size:=by
 intro x hx k a;simp only[C7,EN,List.mem_flatMap] at hx;rcases hx with rfl | rfl | hx | ⟨f,b,hx⟩
 ·exact h.2.2.1.lt k a
 ·exact h.1.lt _ AU k a
 ·exact h.1.lt x BQ k a
 ·exact(h.2.1 f b).lt x hx k a
theorem Vx.push {w d s:World}{g:Value}{cs:List Stil.Gf}{fin:List Rg}{x:Stil.Gf}(h:Vx w base sv rv us cs fin)(A:AO w d)
  (hu:d.ownsRow w.heap.size 111 3 u x.one.args.length (Ar x.one.args)) (H:base<=w.heap.size)
  (R:s.ownsRow base 48 3 g (cs.length+1) (Kt us cs++[AB x.code,AB x.one.op,u])) (hg:d.grownBy s rv.ownBlock) (L:g.ownBlock=rv.ownBlock\/g.ownBlock=some d.heap.size):
  Vx s base sv g (us++[u]) (cs++[x]) fin:=by
 have q:=h.lt;have Q:=h.below A;obtain⟨c,G,K,S⟩:=Q;have E:=S;rw[DX,DX,JW] at E;obtain⟨m,P,T,J,O⟩:=E;have B:Apart u rv:=by
  by_cases e:u.ownBlock=none
  ·exact .inl e
  ·obtain⟨k,b⟩:=Option.ne_none_iff_exists'.1 e
   refine .inr (λa=>?_);rw[b] at a;have Y:=(hu.lt k b).1;have M:=(q rv AU k a.symm).2;omega
 have t:∀y∈sv::rv::(us++fin.flatMap Jv),Apart y u:=by
  intro y hy;by_cases e:y.ownBlock=none
  ·exact .inl e
  ·obtain⟨k,b⟩:=Option.ne_none_iff_exists'.1 e
   refine .inr (λa=>?_);rw[b] at a;have Y:=(hu.lt k a.symm).1;have M:=(q y hy k b).2;omega
 have l:∀y,Apart y rv->(∀k,y.ownBlock=some k->k<d.heap.size)->Apart g y:=by
  intro y hy X;rcases L with e | e
  ·rcases hy with r | r
   ·by_cases D:g.ownBlock=none
    ·exact .inl D
    ·exact .inr (by rw[r];exact D)
   ·exact .inr (by rw[e];exact λa=>r a.symm)
  ·refine .inr (λa=>?_)
   rw[e] at a;have:=X _ a.symm
   omega
 have o:∀y∈sv::rv::(us++fin.flatMap Jv),∀k,y.ownBlock=some k->k<d.heap.size:=λy hy k b=>CB (q y hy k b).2 A.size
 have j:∀y∈us++fin.flatMap Jv,Apart y rv:=λy hy=>(P y hy).symm
 refine⟨⟨by simp[c.1],?_,λi hi N=>?_⟩,λf F=>?_,?_,?_⟩
 ·rw[pU us cs u x c.1,CO];exact R
 ·by_cases e:i<us.length
  ·rw[NC e,NC (by have:=c.1;omega)]
   exact(c.2.2 i e (by have:=c.1;omega)).kept hg (j _ (by simp[CJ e]))
  ·obtain rfl:i=us.length:=by simp at hi;omega
   rw[List.getElem_append_right (CG _)];have U:(cs++[x])[us.length]'N=x:=by
    rw[List.getElem_append_right (by have:=c.1;omega)];simp[c.1]
   rw[U];simp only[Nat.sub_self,EO];exact(Joins.ownsRow_le hu H).kept hg B
 ·have C:∀y∈Jv f,y∈us++fin.flatMap Jv:=λy hy=>Da _ (List.mem_flatMap.2 ⟨f,F,hy⟩)
  exact(G f F).kept hg (j _ (C _ (by simp[Jv]))) (λZ I=>j _ (C _ (by simp[Jv,I])))
 ·exact K.kept hg (m rv AU)
 ·rw[DX,DX,JW,JW]
  have V:∀k,u.ownBlock=some k->k<d.heap.size:=λk b=>(hu.lt k b).2
  refine⟨λy hy=>?_,λy hy=>?_,⟨T,G2 _ _,λy hy z n=>?_⟩,J,λy hy z n=>?_⟩
  ·simp only[C7,EN,KI,DR] at hy
   rcases hy with rfl | (hy | rfl) | hy
   ·exact(l sv (m rv AU) (o sv AU)).symm
   ·exact m y BN
   ·exact t sv AU
   ·exact m y BN
  ·simp only[EN,C7,KI,DR] at hy
   rcases hy with(hy | rfl) | hy
   ·exact l y (j y BN) (o y BN)
   ·exact l y B V
   ·exact l y (j y BN) (o y BN)
  ·obtain rfl:=List.mem_singleton.1 n
   exact t y BN
  ·rcases List.mem_append.1 hy with hy | hy
   ·exact O y hy z n
   ·obtain rfl:=List.mem_singleton.1 hy
    exact(t z (by simp[n])).symm
theorem Vx.close {w:World}{b:Value}{cs:List Stil.Gf}{fin:List Rg}(h:Vx w base sv rv us cs fin)
  (B:w'.ownsRow base 25 1 b (fin.length+1) (fin.map (·.1)++[rv])) (hg:w.grownBy w' sv.ownBlock) (x:b.ownBlock=sv.ownBlock\/b.ownBlock=some w.heap.size):
  Vx w' base b AG [] [] (fin++[(rv,us,cs)]):=by
 have s:=h.lt;obtain⟨r,q,E,C⟩:=h;have n:=C;rw[DX,DX,JW] at n;obtain⟨m,l,D,t,A⟩:=n;have c:∀y∈rv::(us++fin.flatMap Jv),Apart y sv:=λy hy=>(m y hy).symm
 have g:∀y∈rv::(us++fin.flatMap Jv),Apart b y:=by
  intro y hy;rcases x with e | e
  ·rcases m y hy with h0 | h0
   ·exact .inl Br
   ·exact .inr Br
  ·refine .inr (λo=>?_)
   rw[e] at o;have:=(s y (CN _ hy) _ o.symm).2
   omega
 refine⟨⟨rfl,World.ownsRow_nil _ _ _ _,λi hi=>absurd hi AU⟩,λf a=>?_,?_,?_⟩
 ·rcases List.mem_append.1 a with a | a
  ·have k:∀y∈Jv f,y∈rv::(us++fin.flatMap Jv):=λy hy=>CN _ (Da _ (List.mem_flatMap.2 ⟨f,a,hy⟩))
   exact(q f a).kept hg (c _ (k _ (by simp[Jv]))) (λu hu=>c _ (k _ (by simp[Jv,hu])))
  ·obtain rfl:=List.mem_singleton.1 a
   exact r.kept hg (c _ AU) (λu hu=>c _ (by simp[hu]))
 ·rw[CO,CU];exact B
 ·have j:∀y:Value,Apart AG y:=λy=>.inl rfl
  have e:(fin++[((rv,us,cs):Rg)]).flatMap Jv=fin.flatMap Jv++(rv::us):=by simp[Jv]
  rw[C5,e,DX,DX,JW,DX];refine⟨λy hy=>?_,λy _=>j y,t,⟨λy hy=>l y (E0 _ hy),D⟩,λy hy z d=>?_⟩
  ·simp only[C7,EN] at hy
   rcases hy with rfl | hy | rfl | hy
   ·exact(j b).symm
   ·exact g y BN
   ·exact g _ AU
   ·exact g y BN
  ·rcases List.mem_cons.1 d with rfl | d
   ·exact(l y (Da _ hy)).symm
   ·exact(A z d y hy).symm
theorem Xh:∀(us:List Value) (a:List Stil.Gf) (i:Nat) (h:i<us.length) (b:i<a.length),(Kt us a)[i*3]?=some (AB a[i].code)/\(Kt us a)[i*3+1]?=some (AB a[i].one.op)/\(Kt us a)[i*3+2]?=some us[i]
 | [],_,_,h,_=>by simp at h
 | _::_,[],_,_,h=>by simp at h
 | u::us,c::a,0,_,_=>⟨rfl,rfl,rfl⟩
 | u::us,c::a,i+1,h,b=>by
  obtain⟨j,f,d⟩:=Xh us a i BV (by simpa using b);have e:Kt (u::us) (c::a)=AB c.code::AB c.one.op::u::Kt us a:=rfl;have g:(i+1)*3=i*3+1+1+1:=AQ
  rw[e,g];exact⟨by simpa using j,by simpa using f,by simpa using d⟩
theorem QS {α:Type}(f:α->Nat)(c:Nat):∀l:List α,(∀x∈l,f x<=c)->(l.map f).sum<=l.length*c
 | [],_=>by simp
 | x::r,h=>by
  have d:=h x AU;have b:=QS f c r (λy a=>h y (CN _ a));simp only[CQ,DO,CH,G4];omega
theorem yG {w:World}{cs:List Stil.Gf}(h:Td w base rv us cs)(hc:0<cs.length)(I:(rv::us).Pairwise Apart)(X:∀x∈cs,x.one.args.length<=1048576):
  ∃(g:Nat) (qs:List (List Pl)),(Jz g 0 qs).length<=cs.length*3145730/\rv.ownBlock=some g/\Jx w rv g 0 qs/\Vh w (Jz g 0 qs)/\(Jz g 0 qs).Nodup/\H8 w rv cs/\∀p∈Jz g 0 qs,base<=p.1/\∃x∈rv::us,x.ownBlock=some p.1:=by
 obtain⟨Z,E,D⟩:=h;obtain⟨g,cap,R,C,L,_,z⟩:=Bg E AQ;subst R;have H:∀i,i<cs.length->∃m:List Pl,∀(r:i<us.length) (c:i<cs.length),JI us[i] m/\Vh w m/\m.Nodup/\(∀p∈m,base<=p.1/\us[i].ownBlock=some p.1)/\m.length=3*cs[i].one.args.length:=by
  intro i hi;obtain⟨m,B,y,A,J,G⟩:=VK (D i AQ hi);exact⟨m,λ_ _=>⟨B,y,A,J,G⟩⟩
 obtain⟨f,V⟩:=Deep.choose_lt H;have j:∀i (hi:i<cs.length),JI (us[i]'AQ) (f i)/\Vh w (f i)/\(f i).Nodup/\(∀p∈f i,base<=p.1/\(us[i]'AQ).ownBlock=some p.1)/\(f i).length=3*cs[i].one.args.length:=λi hi=>V i hi AQ hi
 obtain⟨O,S⟩:=List.pairwise_cons.1 I;have N:((List.range cs.length).map f).length=cs.length:=AU
 have K:∀i (hi:i<cs.length),∀p∈f i,p.1≠g:=by
  intro i hi p a e;have r:=(j i hi).2.2.2.1 p a;rcases O _ (CJ (show i<us.length by omega)) with c | c
  ·cases c
  ·exact c (by rw[r.2,e];rfl)
 have s:=VW (w:=w) (b:=g) (cap:=cap) (l:=cs) (qs:=(List.range cs.length).map f) L N (λi hi=>by
   obtain⟨B,y,A⟩:=Xh us cs i AQ hi;refine⟨z _ _ B,z _ _ y,us[i]'AQ,z _ _ A,?_,?_⟩
   ·simpa using(j i hi).1
   ·exact(Kr.of_owns (D i AQ hi)).at) (λo=>E.frozenAt o)
  (λq t=>by
   obtain⟨i,hi,rfl⟩:=List.mem_map.1 t;have d:=List.mem_range.1 hi
   exact⟨(j i d).2.1,(j i d).2.2.1,K i d⟩)
  (by
   rw[List.pairwise_map];refine List.Pairwise.imp_of_mem ?_ (List.pairwise_lt_range (n:=cs.length));intro i k hi P T p a Q;have d:=List.mem_range.1 hi;have M:=List.mem_range.1 P;have F:=((j i d).2.2.2.1 p a).2;have Y:=((j k M).2.2.2.1 p Q).2;rcases (List.pairwise_iff_getElem.1 S) i k AQ AQ T with c | c
   ·rw[F] at c;cases c
   ·exact c (by rw[F,Y]))
 have U:(Jz g 0 ((List.range cs.length).map f)).length<=cs.length*3145730:=by
  rw[TV,EZ]
  have:=QS ((λq:List Pl=>2+q.length) ∘ f) 3145730 (List.range cs.length) (λi hi=>by
   have d:=List.mem_range.1 hi;have r:=(j i d).2.2.2.2;have c:=X _ (CJ d);simp only[Function.comp]
   omega)
  simpa using this
 refine⟨g,(List.range cs.length).map f,U,rfl,s.1,s.2.1,s.2.2.1,s.2.2.2,λp a=>?_⟩;rcases Ue g _ 0 p a with⟨i,_,a | a⟩ | ⟨q,t,a⟩
 ·subst a;exact⟨C,_,ET ..,rfl⟩
 ·subst a;exact⟨C,_,ET ..,rfl⟩
 ·obtain⟨i,hi,rfl⟩:=List.mem_map.1 t
  have d:=List.mem_range.1 hi;have r:=(j i d).2.2.2.1 p a;exact⟨r.1,_,CN _ (CJ (show i<us.length by omega)),r.2⟩
theorem QG {k:Nat}(h:Apart u v)(hu:u.ownBlock=some k)(a:v.ownBlock=some k):False:=by
 rcases h with h | h
 ·rw[hu] at h;cases h
 ·exact h (by rw[hu,a])
theorem qk {fin:List Rg}(h:(fin.flatMap Jv).Pairwise Apart):(∀f∈fin,(Jv f).Pairwise Apart)/\∀i k (hi:i<fin.length) (a:k<fin.length),i<k->∀x∈Jv fin[i],∀y∈Jv fin[k],Apart x y:=by
 obtain⟨e,c⟩:=List.pairwise_flatMap.1 h;refine⟨e,λi k hi a d x g y b=>?_⟩;exact(List.pairwise_iff_getElem.1 c) i k hi a d x g y b
theorem vq {w:World}{cs:List Stil.Gf}{fin:List Rg}(h:Vx w base sv rv us cs fin)(aa:∀f∈fin,0<f.2.2.length)(an:∀f∈fin,f.2.2.length<=1000)(ak:∀f∈fin,∀x∈f.2.2,x.one.args.length<=1048576):
  ∃(B:Nat) (c:List Rw),Ss w sv B 0 c/\Vh w (N9 c)/\(N9 c).Nodup/\(∀p∈N9 c,base<=p.1)/\iv w sv (fin.map (·.2.2))/\c.length=fin.length/\(N9 c).length<=fin.length*3145730000/\(0<fin.length->base<=B):=by
 obtain⟨_,ah,P,S⟩:=h;rw[DX,DX,JW] at S;obtain⟨hs,_,_,ab,_⟩:=S;obtain⟨af,I⟩:=qk ab;have al:∀f∈fin,∀x∈Jv f,Apart sv x:=λf H x o=>hs x (by simp only[C7,EN,List.mem_flatMap];exact .inr (.inr ⟨f,H,o⟩))
 have ai:∀i,i<fin.length->∃r:Rw,∀(hi:i<fin.length),fin[i].1.ownBlock=some r.1/\r.2.1=0/\Jx w fin[i].1 r.1 0 r.2.2/\Vh w (FI r)/\(FI r).Nodup/\H8 w fin[i].1 fin[i].2.2/\(∀p∈FI r,base<=p.1/\∃x∈Jv fin[i],x.ownBlock=some p.1)/\(FI r).length<=3145730000:=by
  intro i hi;have t:=CJ hi;obtain⟨g,U,a0,a1,a2,a3,Y,T,Z⟩:=yG (ah _ t) (aa _ t) (af _ t) (ak _ t);refine⟨(g,0,U),λ_=>⟨a1,rfl,a2,a3,Y,T,Z,?_⟩⟩;have:=E6 3145730 (an _ t)
  unfold FI;exact CM a0 AQ
 haveI:Inhabited Rw:=⟨(0,0,[])⟩
 obtain⟨f,H⟩:=Deep.choose_lt ai;have d:∀i (hi:i<fin.length),fin[i].1.ownBlock=some (f i).1/\(f i).2.1=0/\Jx w fin[i].1 (f i).1 0 (f i).2.2/\Vh w (FI (f i))/\(FI (f i)).Nodup/\H8 w fin[i].1 fin[i].2.2/\(∀p∈FI (f i),base<=p.1/\∃x∈Jv fin[i],x.ownBlock=some p.1)/\(FI (f i)).length<=3145730000:=λi hi=>H i hi hi
 obtain⟨c,s⟩:=AA ((List.range fin.length).map f)
 have C:c.length=fin.length:=by rw[s];simp
 have aj:∀i (hi:i<c.length),c[i]=f i:=by intro i hi;subst s;simp
 have E:∀p∈N9 c,∃i,i<fin.length/\p∈FI (f i):=by
  intro p b;obtain⟨r,z,b⟩:=List.mem_flatMap.1 b;rw[s] at z;obtain⟨i,hi,rfl⟩:=List.mem_map.1 z;exact⟨i,List.mem_range.1 hi,b⟩
 have J:∀i k (hi:i<fin.length) (l:k<fin.length),i≠k->∀x∈Jv fin[i],∀y∈Jv fin[k],Apart x y:=by
  intro i k hi l G x o y D;rcases Nat.lt_or_gt_of_ne G with h | h
  ·exact I i k hi l h x o y D
  ·exact(I k i l hi h y D x o).symm
 have ac:∀f:Rg,f.1∈Jv f:=λf=>ET ..
 have R:Vh w (N9 c):=by
  intro p b;obtain⟨i,hi,b⟩:=E p b;exact(d i hi).2.2.2.1 p b
 have Q:(N9 c).Nodup:=by
  unfold N9;refine List.pairwise_flatMap.2 ⟨λr z=>?_,?_⟩
  ·rw[s] at z
   obtain⟨i,hi,rfl⟩:=List.mem_map.1 z;exact(d i (List.mem_range.1 hi)).2.2.2.2.1
  ·rw[s,List.pairwise_map]
   refine List.Pairwise.imp_of_mem ?_ (List.pairwise_lt_range (n:=fin.length));intro i k hi l G p b q V e;subst e;have m:=List.mem_range.1 hi;have M:=List.mem_range.1 l;obtain⟨_,x,o,A⟩:=(d i m).2.2.2.2.2.2.1 p b;obtain⟨_,y,D,ey⟩:=(d k M).2.2.2.2.2.2.1 p V;exact QG (J i k m M (KH G) x o y D) A ey
 have O:∀p∈N9 c,base<=p.1:=by
  intro p b;obtain⟨i,hi,b⟩:=E p b;exact((d i hi).2.2.2.2.2.2.1 p b).1
 have xE:∀i (_:i<fin.length) j,j<(f i).2.2.length->((f i).1,(f i).2.1+j*3+2)∉N9 c:=by
  intro i hi j F b;obtain⟨k,l,b⟩:=E _ b;by_cases e:k=i
  ·subst e
   have X:=((d k l).2.2.1.2 j F).2.1;unfold FI at b;rw[(d k l).2.1] at b;exact X b
  ·obtain⟨_,x,o,A⟩:=(d k l).2.2.2.2.2.2.1 _ b
   exact QG (J i k hi l (λh=>e h.symm) _ (ac _) x o) (d i hi).1 A
 have N:(N9 c).length<=fin.length*3145730000:=by
  unfold N9;rw[List.length_flatMap,s,EZ];have:=QS ((λr=>(FI r).length) ∘ f) 3145730000 (List.range fin.length) (λi hi=>(d i (List.mem_range.1 hi)).2.2.2.2.2.2.2)
  simpa using this
 by_cases hz:fin.length=0
 ·obtain⟨a,cap,rfl⟩:=Af P
  refine⟨0,c,⟨⟨a,cap,by rw[C],λh=>absurd h AQ⟩,λi hi=>absurd hi AQ⟩,R,Q,O,⟨a,cap,AU,λi hi=>absurd hi Ax⟩,C,N,λh=>absurd h AQ⟩
 ·obtain⟨B,cap,hv,ae,L,_,ag⟩:=Bg P AQ
  subst hv;have K:∀i (hi:i<fin.length),w.cell? (AK B (0+i))=some fin[i].1:=by
   intro i hi;rw[CV];exact ag i _ (by simp[DW hi])
  refine⟨B,c,⟨⟨some (AK B 0),cap,by rw[C],λ_=>rfl⟩,λi hi=>?_⟩,R,Q,O,⟨some (AK B 0),cap,AU,λi hi=>?_⟩,C,N,λ_=>ae⟩
  ·have m:i<fin.length:=by omega
   rw[aj i hi];refine⟨L,λb=>?_,λj F=>xE i m j F,_,K i m,?_⟩
   ·obtain⟨k,l,b⟩:=E _ b
    obtain⟨_,x,o,A⟩:=(d k l).2.2.2.2.2.2.1 _ b;exact QG (al _ (CJ l) x o) rfl A
   ·rw[(d i m).2.1];exact(d i m).2.2.1
  ·have m:i<fin.length:=by simpa using hi
   refine⟨B,0,rfl,L,fin[i].1,K i m,?_⟩;rw[EH];exact(d i m).2.2.2.2.2.1
def XC (lo:Nat)(w:World)(v:Value)(l:List (List Stil.Gf)):Prop:=∃a cap,v=AE a l.length cap/\∀i (h:i<l.length),∃b o,a=some ⟨b,o,none⟩/\lo<=b/\b<w.heap.size/\∃rv,w.cell? ⟨b,o+i,none⟩=some rv/\Zc lo w rv l[i]
theorem Aye {w:World}{cs:List Stil.Gf}(h:Td w base rv us cs):Zc base w rv cs:=by
 obtain⟨n,c,l⟩:=h;by_cases o:cs.length=0
 ·obtain⟨a,cap,rfl⟩:=Af c
  exact⟨a,cap,rfl,λi hi=>absurd hi AQ⟩
 ·obtain⟨g,cap,d,e,f,_,b⟩:=Bg c AQ
  subst d;refine⟨_,cap,rfl,λi hi=>⟨g,0,rfl,e,f,?_⟩⟩;obtain⟨m,k,j⟩:=Xh us cs i AQ hi;unfold eN;rw[CV];exact⟨b _ _ m,b _ _ k,us[i]'AQ,b _ _ j,Kr.of_owns (l i AQ hi)⟩
theorem Aws {w:World}{cs:List Stil.Gf}{fin:List Rg}(h:Vx w base sv rv us cs fin):XC base w sv (fin.map (·.2.2)):=by
 obtain⟨_,j,b,_⟩:=h;by_cases k:fin.length=0
 ·obtain⟨a,cap,rfl⟩:=Af b
  exact⟨a,cap,AU,λi hi=>absurd hi Ax⟩
 ·obtain⟨B,cap,d,e,g,_,f⟩:=Bg b AQ
  subst d;refine⟨some (AK B 0),cap,AU,λi hi=>?_⟩;have c:i<fin.length:=by simpa using hi
  refine⟨B,0,rfl,e,g,fin[i].1,?_,?_⟩
  ·rw[CV]
   exact f i _ (by simp[DW c])
  ·rw[EH]
   exact Aye (j _ (CJ c))
end Go.Proofs.YtmnnkedjoecehaaGreatDoor
namespace Go.Proofs.YtmnnkedjoecehaaGreatDoor
open Tryz Stil Go.RowKit Go.Sort Go.BigFrame
variable {W:World}{u0:Value}
theorem Avb:(prog.info? 25).map (λi=>(i.zero,i.size,i.bytes))=some (some AG,1,24):=AX
theorem cells3 {b a:Value}{t:TypeId}:∀j u,[u0,b,a][j]?=some u->(W.alloc (.cells #[u0,b,a] t)).cell? (((AL W 0):Addr).add j)=some u:=by
 intro j u h;rw[Addr.add_lit]
 match j,h with
 | 0,h=>simp at h;subst h;simp[go_sem]
 | 1,h=>simp at h;subst h;simp[go_sem]
 | 2,h=>simp at h;subst h;simp[go_sem]
 | j+3,h=>simp at h
theorem mU {t:TypeId}:∀j u,[u0][j]?=some u->(W.alloc (.cells #[u0] t)).cell? (((AL W 0):Addr).add j)=some u:=by
 intro j u h;rw[Addr.add_lit]
 match j,h with
 | 0,h=>simp at h;subst h;simp[go_sem]
 | j+1,h=>simp at h
theorem qE (l:List Stil.Gf)(v:Value)(w:World)(hr:Ep w)(hw:Ii w)(ap:H8 w v l)(hl:l.length<=1000)(ag:∀x∈l,x.fits)(ae:(Et l).1=0/\(Et l).2=0):
  Calls prog 7 #[v] w λe w'=>∃(sv rv:Value) (us:List Value) (c:List Stil.Gf) (fin:List Rg),e=.returned sv/\Vx w' w.heap.size sv rv us c fin/\fin.map (·.2.2)=Eh [] l/\AO w w':=by
 obtain⟨i0,hi,ax,aI,az⟩:=info_parts Azq;obtain⟨i1,aK,aH,aw,aA⟩:=info_parts Avb;have HF:Hid (∀x∈l,x.fits):=ag;have pg:Hid (∀W,AO w W->Calls prog 19 #[v] W (AN W (.agg #[AB 0,AB 0]))):=by
  intro W h;have:=VX l v W (hr.below h) (hw.below h) (ap.below h) AQ ag
  rwa [ae.1,ae.2] at this
 obtain⟨a,cap,rfl,hc⟩:=ap;have HC:Hid (∀i (h:i<l.length),∃b o,a=some (AK b o)/\b<w.heap.size/\KA w b (o+i*3) l[i]):=hc;obtain⟨D,aa⟩:=AA l.length
 have eF:Hid (D=l.length):=aa;rw[<-aa] at hl pg ⊢;clear hc ag aa hr hw ae;go_enter func7,ntmps7
 go_wp2_with (go_at_call 19;refine(pg _ AW).mono ?_;rintro e w1 ⟨rfl,aP⟩)
 go_loopw [3,4,13] (λsv rv i wr=>∃(j:Nat) (us:List Value) (c:List Stil.Gf) (fin:List Rg) (r C:Option Addr) (q B:Nat),j<=D/\i=AB j/\sv=AE r fin.length q/\rv=AE C c.length B/\c.length<=j/\fin.length<=j/\Vx wr w.heap.size (AE r fin.length q) (AE C c.length B) us c fin/\Eh [] l=fin.map (·.2.2)++Eh c (l.drop j)/\AO w wr) (λ_ _ i _=>D - (intOf i).toNat)
 case atStart=>
  refine⟨0,[],[],[],none,none,0,0,AQ,rfl,rfl,rfl,AU,AU,⟨⟨rfl,World.ownsRow_nil _ _ _ _,λi hi=>absurd hi AU⟩,(λf hf=>by cases hf),World.ownsRow_nil _ _ _ _,?_⟩,rfl,AW⟩;simp[Apart];rfl
 case round=>
  obtain⟨j,us,c,fin,r,C,q,B,hj,rfl,rfl,rfl,aJ,aD,au,ao,J⟩:=hrel;have I:Hid (Vx wr w.heap.size (AE r fin.length q) (AE C c.length B) us c fin):=au;have F:Hid (Eh [] l=fin.map (·.2.2)++Eh c (l.drop j)):=ao;clear au ao;obtain⟨d,P⟩:=AA c.length
  obtain⟨y,S⟩:=AA fin.length
  have K:Hid (d=c.length):=P;have s:Hid (y=fin.length):=S;rw[<-P,<-S] at I;rw[<-P] at aJ ⊢;rw[<-S] at aD ⊢;clear P S;by_cases aL:j<D
  ·have T:j<l.length:=by have:=eF.out;omega
   obtain⟨b,o,rfl,aB,hn⟩:=HC j T;obtain⟨x0,x1,rO,x2,ab⟩:=hn.below J aB;have oH:Hid (∀W,AO wr W->Calls prog 20 #[.agg #[AB l[j].one.op,rO]] W λe w'=>∃u,e=.returned (.agg #[AB l[j].one.op,u])/\w'.ownsRow W.heap.size 111 3 u l[j].one.args.length (Ar l[j].one.args)/\AO W w'):=λW m=>OG l[j].one.op rO l[j].one.args W (ab.below m) (HF _ (CJ T)).2.2.1
   have an:=pT c l j T;rw[an] at F;obtain⟨x,hx⟩:=AA (l[j])
   rw[<-hx] at oH F x0 x1 ab;obtain⟨t0,u0,rfl,_⟩:=ab;clear hx hn an;go_upto_region 8 with fail
   obtain⟨W,m⟩:=AA (wr.alloc (.cells #[AB x.code,AB x.one.op,AE t0 x.one.args.length u0] 48))
   rw[<-m];have aj:W.heap.size=wr.heap.size+1:=by rw[m];simp
   have q0:W.cell? (AL wr 0)=some (AB x.code):=by rw[m];simp[go_sem]
   have q1:W.cell? (AL wr 1)=some (AB x.one.op):=by rw[m];simp[go_sem]
   have q2:W.cell? (AL wr 2)=some (AE t0 x.one.args.length u0):=by rw[m];simp[go_sem]
   have R:AO wr W:=by rw[m];exact Aa _ _
   have fZ:Hid (AO wr W):=R;have X:Hid (W.heap.size=wr.heap.size+1):=aj;have ug:Hid (Vx W w.heap.size (AE r y q) (AE C d B) us c fin):=I.below R;have vk:w.heap.size<=W.heap.size:=CM J.size R.size;clear m x0 x1 x2 R aj;have jQ:Hid (∀V,AO W V->Calls prog 20 #[.agg #[AB x.one.op,AE t0 x.one.args.length u0]] V λe w'=>∃u,e=.returned (.agg #[AB x.one.op,u])/\w'.ownsRow V.heap.size 111 3 u x.one.args.length (Ar x.one.args)/\AO V w'):=λV hV=>oH V (fZ.trans (hV.mono fZ.size))
   obtain⟨N,af⟩:=AA (Kt us c)
   have ni:Hid (N=Kt us c):=af;have ai:Hid (∀V,AO W V->V.ownsRow w.heap.size 48 3 (AE C d B) d N):=by
    intro V hV;have:=ownsRow_below ug.1.2.1 hV
    rw[<-K.out,<-af] at this;exact this
   clear af;have aN:d<=1000:=AQ
   go_region_law (first | (refine Ec rfl _ _ 25 rfl w.heap.size 48 i0 (.agg #[AB 0,AB 0,AG]) 3 40 underlying25 hi ax aI az rfl AY _ _ _ rfl ((ai _ g).alloc _) _ _ _ [AB x.code,AB x.one.op,AE z x.one.args.length A] rfl rfl (by exact cells3) (by intro u hu;simp at hu;rcases hu with rfl | rfl | rfl<;>rfl) A6 AQ (by have:=g.size;simp only[World.size_alloc];omega) ?_;intro v' G ac O aV;obtain⟨H,E,aE⟩:=Af ac;subst aE;have q6:G.cell? (AL wr 0)=some (AB x.code):=(Du O (by have:=X.out;have:=g.size;simp only[World.size_alloc];omega) al).trans ((Aa M _).cell (p:=(AL wr 0)) (by have:=X.out;have:=g.size;show wr.heap.size<M.heap.size;omega) |>.trans q5)) | (go_simp;go_at_call 20;refine(jQ _ (by exact(Below.refl _ W).drew)).mono ?_;rintro e M ⟨u,rfl,g5,ak⟩;obtain⟨z,A,aG⟩:=Af g5;subst aG;have g:AO W M:=((Below.refl W.heap.size W).drew).trans ak;have q5:M.cell? (AL wr 0)=some (AB x.code):=(g.cell (p:=(AL wr 0)) (by have:=X.out;show wr.heap.size<W.heap.size;omega)).trans q0;have al:(Value.slice C d B).ownBlock≠some wr.heap.size:=λe=>by have:=(I.1.2.1.lt _ e).2;omega))
   all_goals
    have Q:Hid (Vx G w.heap.size (AE r y q) (AE H (d+1) E) (us++[AE z x.one.args.length A]) (c++[x]) fin):=by
     refine Vx.push (w:=W) ug (g.trans ((Aa _ _).mono g.size)) (World.ownsRow.alloc g5 _) vk ?_ O aV;rw[<-K.out,<-ni.out];exact ac
    have ah:AO w (M.alloc (.cells #[AB x.code,AB x.one.op,AE z x.one.args.length A] 48)):=(J.trans (fZ.mono J.size)).trans ((g.trans ((Aa _ _).mono g.size)).mono vk);have lu:AO w G:=ah.grown O ah.size (λk hk=>(I.1.2.1.lt k hk).1);have aO:w.heap.size<=G.heap.size:=lu.size;have t:=F.out;clear O ac aV g5 ak ah q5 al g jQ ai oH F;by_cases L:x.code=11
    ·rw[if_pos L] at t
     have U:Hid (Eh [] l=(fin++[((AE H (d+1) E,us++[AE z x.one.args.length A],c++[x]):Rg)]).map (·.2.2)++Eh [] (l.drop (j+1))):=by show _=_;rw[t];simp
     clear t;rw[L] at q6;have bV:G.ownsRow w.heap.size 25 1 (AE r y q) y (fin.map (·.1)):=by
      have:=Q.2.2.1
      rw[<-s.out] at this;exact this
     obtain⟨Y,Z⟩:=AA (fin.map (·.1))
     rw[<-Z] at bV;have av:Hid (Y=fin.map (·.1)):=Z;clear Z
     go_wp2_with (at_builtin;refine wpList_append_own_at _ rfl _ _ 28 rfl w.heap.size 25 i1 AG 1 24 underlying28 aK aH aw aA rfl AY _ _ _ rfl (bV.alloc _) (AL G 0) 1 1 [AE H (d+1) E] rfl rfl (by exact mU) (by intro u hu;simp at hu;subst hu;rfl) A6 AQ Bn ?_)
     intro v7 w7 bU bQ _ iQ;obtain⟨a7,c7,ay⟩:=Af bU;subst ay;have aF:Hid (Vx w7 w.heap.size (AE a7 (y+1) c7) AG [] [] (fin++[((AE H (d+1) E,us++[AE z x.one.args.length A],c++[x]):Rg)])):=by
      refine Vx.close (Q.below (Aa _ _)) ?_ bQ (by rw[World.size_alloc];exact iQ);rw[<-s.out,<-av.out];exact bU
     have zM:AO w w7:=(Bi lu _).grown bQ Bn (λk hk=>(Q.2.2.1.lt k hk).1);clear bU bQ iQ bV
     go_wp2
     refine⟨⟨j+1,[],[],fin++[((AE H (d+1) E,us++[AE z x.one.args.length A],c++[x]):Rg)],a7,none,c7,0,AQ,by go_num,by simp[s.out],rfl,AU,?_,?_,U.out,zM⟩,by simp[intOf];omega⟩
     ·simp only[CO,CH,CP];have:=s.out;omega
     ·have:=aF.out
      rw[s.out] at this;simpa using this
    ·rw[if_neg L] at t
     have U:Hid (Eh [] l=fin.map (·.2.2)++Eh (c++[x]) (l.drop (j+1))):=t;have aM:(x.code==11)=false:=by rw[CS];exact L
     clear t L
     go_wp2
     refine⟨⟨j+1,us++[AE z x.one.args.length A],c++[x],fin,r,H,q,E,AQ,by go_num,by rw[s.out],by simp[K.out],?_,?_,?_,U.out,lu⟩,by simp[intOf];omega⟩
     ·simp only[CO,CH,CP];have:=K.out;omega
     ·have:=s.out;omega
     ·have:=Q.out
      rw[K.out,s.out] at this;simpa using this
  ·have aQ:j=D:=by omega
   have ar:Eh c (l.drop j)=[]:=by rw[F4 yFj];rfl
   have t:Hid (Eh [] l=fin.map (·.2.2)):=by show _=_;rw[F.out,ar,GI]
   clear ar F
   go_wp2
   go_ret;exact⟨_,_,us,c,fin,rfl,I.out,t.symm,J⟩
theorem qK (l:List Stil.Gf)(v:Value)(w:World)(hr:Ep w)(f:Ii w)(d:H8 w v l)(hl:l.length<=1048576)(i:∀x∈l,x.fits)(m:0<(Et l).1):
  Calls prog 7 #[v] w (AN w AG):=by
 have k:Hid (∀W,AO w W->Calls prog 19 #[v] W (AN W (.agg #[AB (Et l).1,AB (Et l).2]))):=λW h=>VX l v W (hr.below h) (f.below h) (d.below h) hl i
 obtain⟨a,cap,rfl,_⟩:=d;obtain⟨j,b⟩:∃c,c=(Et l).1:=⟨_,rfl⟩
 obtain⟨t,g⟩:∃c,c=(Et l).2:=⟨_,rfl⟩
 rw[<-b,<-g] at k;rw[<-b] at m;have o:(j==0)=false:=by rw[CS];omega
 have r:¬j=0:=AQ
 clear hr f i b g;go_enter func7,ntmps7
 go_wp2_with (go_at_call 19;refine(k _ AW).mono ?_;rintro e q ⟨rfl,s⟩)
 all_goals go_ret
 all_goals exact⟨rfl,AW⟩
end Go.Proofs.YtmnnkedjoecehaaGreatDoor
namespace Stil
end Stil
namespace Go.Proofs.YtmnnkedjoecehaaGreatDoor
open Tryz Stil Go.RowKit Go.Sort Go.BigFrame
def iu (lo:Nat)(w:World)(sv:Value)(L:List (List Stil.Gf))(B:Nat)(rs:List Rw):Prop:=
 Ss w sv B 0 rs/\Vh w (N9 rs)/\(N9 rs).Nodup/\(∀p∈N9 rs,lo<=p.1)/\(0<rs.length->lo<=B)/\XC lo w sv L/\rs.length<=1000/\(N9 rs).length<=3145730000000
theorem vb (l:List Stil.Gf)(v:Value)(w:World)(hr:Ep w)(t:Ii w)(s:H8 w v l)(hl:l.length<=1048576)(j:∀x∈l,x.fits):
  Calls prog 7 #[v] w λe w'=>∃(a:Option Addr) (cap:Nat) (B:Nat) (k:List Rw),e=.returned (.slice a (L6 l).length cap)/\iu w.heap.size w' (.slice a (L6 l).length cap) (L6 l) B k/\AO w w':=by
 by_cases c:0<(Et l).1
 ·refine(qK l v w hr t s hl j c).mono ?_
  rintro e H ⟨rfl,d⟩;have g:L6 l=[]:=by unfold L6;rw[if_pos c]
  rw[g];exact⟨none,0,0,[],rfl,⟨⟨⟨none,0,rfl,λh=>absurd h AU⟩,λi hi=>absurd hi AU⟩,(λp n=>by simp[N9] at n),by simp[N9],(λp n=>by simp[N9] at n),(λh=>absurd h AU),⟨none,0,rfl,λi hi=>absurd hi AU⟩,AU,by simp[N9]⟩,d⟩
 ·have y:=Vk l c
  have E:=qz y.1;have g:L6 l=Eh [] l:=by unfold L6;rw[if_neg c]
  rw[g];refine(qE l v w hr t s E j y).mono ?_;rintro e H ⟨sv,rv,us,N,fin,rfl,r,m,d⟩;have o:∀f∈fin,f.2.2∈Eh [] l:=λf b=>by rw[<-m];exact List.mem_map.2 ⟨f,b,rfl⟩
  have F:fin.length<=1000:=by
   have z:=rI l [];rw[<-m,CW] at z;omega
  obtain⟨B,k,L,D,K,A,M,C,O,G⟩:=vq r (λf b=>(Xg l [] _ (o f b)).1) (λf b=>by have:=(Xg l [] _ (o f b)).2.2;simp at this;omega)
   (λf b x J=>by
    rcases (Xg l [] _ (o f b)).2.1 x J with h | h
    ·cases h
    ·exact(j x h).2.2.1)
  have q:=Aws r;rw[m] at q;have I:=q;obtain⟨a,cap,rfl,_⟩:=I;refine⟨a,cap,B,k,rfl,⟨L,D,K,A,by rw[C];exact G,q,AQ,?_⟩,d⟩;have:=E6 3145730000 F
  omega
