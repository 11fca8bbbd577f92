import Derived.Test.YtmnnkedjoecehaaGreatDoorHb
import Derived.Test.YtmnnkedjoecehaaGreatDoorHc
set_option maxHeartbeats 4000000
set_option maxRecDepth 100000
namespace Go.Proofs.YtmnnkedjoecehaaGreatDoor
open Tryz Stil Go.RowKit Go.Sort Go.BigFrame
variable {base n:Nat}{cs xs:List Value}{r:Option Nat}{v v':Value}{w':World}
def SH (Q:Nat->Prop)(e:Ending)(w w':World)(g P N k:Nat):Prop:=∃(l:List Stil.B9) (v:Value),e=.returned v/\Fe (Fr Q w.heap.size w.heap.size) w' v l/\(∀a∈l,Jw a/\Gt a<=N)/\l.length<=k/\Ij w' g P/\w.grownBy w' (some g)
theorem R7 {Q:Nat->Prop}{m:Nat}{w:World}{a:Stil.B9}(h:Qb (FrO Q n m v) w cs a)(hg:w.grownBy w' v.ownBlock)(d:v'.ownBlock=v.ownBlock\/v'.ownBlock=some w.heap.size):Qb (FrO Q n m v') w' cs a:=by
 have f:Qb (λb=>FrO Q n m v b/\FrO Q n m v' b) w cs a:=h.mono λb g c=>⟨c,c.1,λe=>by
  rcases d with h | h
  ·exact c.2 (h ▸ e)
  ·rw[h] at e
   simp only[C0] at e
   omega⟩
 exact(f.keep (F7 (FrO.keep hg) λb _ c=>c.1)).mono λb _ c=>c.2
theorem eW {B:Nat}(h:v.ownBlock≠some B)(a:v'.ownBlock=v.ownBlock\/v'.ownBlock=some n)(b:B<n):v'.ownBlock≠some B:=by
 rcases a with e | e
 ·rw[e];exact h
 ·rw[e]
  intro e;simp only[C0] at e;omega
theorem OT {w:World}{e:TypeId}{size:Nat}(h:w.ownsRow base e size v n xs)(hg:w.grownBy w' r)(hr:∀k,v.ownBlock=some k->r≠some k):w'.ownsRow base e size v n xs:=by
 refine⟨h.1,?_⟩;rcases h.2 with g | ⟨k,cap,cur,a,d,c,f⟩
 ·exact Or.inl g
 ·have b:v.ownBlock=some k:=by rw[a];rfl
  exact Or.inr ⟨k,cap,cur,a,d,by rw[hg.block k (h.lt k b).2 (λe=>hr k b e.symm)];exact c,f⟩
def GK (R:Nat->Prop)(v:Value)(b:Nat):Prop:=R b/\v.ownBlock≠some b
theorem Z1 {R:Nat->Prop}{w:World}{a:Stil.Elem}(h:N8 (GK R v) w cs a)(hg:w.grownBy w' v.ownBlock)(f:v'.ownBlock=v.ownBlock\/v'.ownBlock=some w.heap.size):N8 (GK R v') w' cs a:=by
 have g:N8 (λb=>GK R v b/\GK R v' b) w cs a:=h.mono λb d c=>⟨c,c.1,λe=>by
  rcases f with h | h
  ·exact c.2 (h ▸ e)
  ·rw[h] at e
   simp only[C0] at e
   omega⟩
 exact(g.keep (F7 (Ac.of_grown (P:=GK R v) hg λ_ d=>d.2) λb _ c=>c.1)).mono λb _ c=>c.2
theorem UR {w:World}{b:Nat}{op:Int}(h:Yg w b op v)(hg:w.grownBy w' r)(hr:r≠some b):Yg w' b op v:=by
 obtain⟨d,f⟩:=h;have e:=hg.block b d (λx=>hr x.symm);have c:∀o,w'.cell? (AK b o)=w.cell? (AK b o):=λo=>by unfold World.cell?;rw[e]
 have a:∀o,w'.frozen? (AK b o)=w.frozen? (AK b o):=λo=>by unfold World.frozen?;rw[e]
 refine⟨CB d hg.size,?_⟩;rw[c,c,a,a];exact f
theorem f8 {R:Nat->Prop}{w:World}{a cap k:Nat}{ns:List Stil.B9}{E:List Stil.Elem}{d:Value}(h:w.ownsRow base 62 6 (AE (some (AK a 0)) n cap) n xs)(hr:RowOf 6 (Qb R w) xs ns)(f:k<ns.length)(l:¬R a)(q:Dn R w d E):
  ∃g,(w.setCell (AK a (k*6+4)) d).ownsRow base 62 6 (AE (some (AK a 0)) n cap) n g/\RowOf 6 (Qb R (w.setCell (AK a (k*6+4)) d)) g (ns.set k ⟨ns[k].net,E,ns[k].kids⟩):=by
 refine⟨_,(h.stored (k*6+4) _).1,?_⟩;have c:Ac R w (w.setCell (AK a (k*6+4)) d):=Ac.set l _;obtain⟨o,u,y,i,t,s,m,z,x⟩:=hr.2 k f;have b:=J0 hr f t;have A:=hr.1;refine RowOf.set (hr.imp λ_ _ _ h=>h.keep c) f AU ⟨o,u,d,i,?_,s.keep c,m.keep c,q.keep c,x.keep c⟩ ?_
 ·apply LA
  intro j;rw[G0];by_cases e:j<6
  ·rw[if_pos e,G1]
   have:j=0\/j=1\/j=2\/j=3\/j=4\/j=5:=AQ
   rcases this with rfl | rfl | rfl | rfl | rfl | rfl
   ·rw[CY AQ];exact b 0 _ rfl
   ·rw[CY AQ];exact b 1 _ rfl
   ·rw[CY AQ];exact b 2 _ rfl
   ·rw[CY AQ];exact b 3 _ rfl
   ·rw[Dm AQ];rfl
   ·rw[CY AQ];exact b 5 _ rfl
  ·rw[if_neg e,KF Ax]
 ·intro j e
  rw[CY AQ]
theorem QE (X:Stil.B9)(E:List Stil.Elem):X.coils.length<=Gt X/\Gu X.coils<=Gt X/\Gt ⟨X.net,E,X.kids⟩+Gu X.coils=Gt X+Gu E:=by
 obtain⟨n,cs,a⟩:=X;have d:=Gm n cs a;have c:=Gm n E a;have b:Gu cs=cs.length+(cs.map Qd).sum:=rfl;show cs.length<=Gt ⟨n,cs,a⟩/\Gu cs<=Gt ⟨n,cs,a⟩/\Gt ⟨n,E,a⟩+Gu cs=Gt ⟨n,cs,a⟩+Gu E
 omega
theorem Ax5 (Q:Nat->Prop)(g P N K:Nat)(w:World)(v:Value)(l:List Stil.B9)(hQ:∀b,Q b->g<b)(hv:Fe Q w v l)(ht:∀a∈l,Jw a/\Gt a<=N)(hl:l.length<=K)(hK:K<=1000)(hN:N<=20000)(hr:Ij w g P)(hP:P<=2000000):
  Calls prog 25 #[AH g,v] w λe w'=>SH Q e w w' g (P+300000) (N+2000) (K+100):=by
 have hg:=V8 hr;obtain⟨ia,a9,iJ,iI,iH⟩:=info_parts KP;have HV:=AV hv;have U:=AV ht;have HQ:=AV hQ;obtain⟨a1,c1,rfl,-⟩:=hv;clear ht hQ;go_enter func25,ntmps25;go_upto_region 2 with(at_builtin;refine Sr rfl _ _ rfl Q w l (AE a1 l.length c1) rfl rfl rfl HV AQ ?_;intro d V w3 xs aa ac dW gV aJ;have G:=AV aa;have ae:=AV ac;have dJ:Hid ((w.alloc (.cells #[] 62)).grownBy w3 (some w.heap.size)):=aJ;clear aa ac aJ)
 have s3:=dJ.size;rw[World.size_alloc] at s3;have aK:Hid (RowOf 6 (Qb (λb=>Fr Q w.heap.size w.heap.size b/\b≠d) w3) xs l):=ae.imp λ_ _ _ h=>h.mono λb _ f=>⟨Or.inl f,by have:=f.2;omega⟩
 have bP:=Fh (Ci hr _) dJ BH;have bZ:w.grownBy w3 (some g):=J8 (Ei (Pj _ _) _) dJ BH;clear ae dJ HV hr;by_cases cb:l.length=0
 ·have hz:((l.length:Int)==0)=true:=by rw[ED];omega
  go_wp2_with (at_builtin;refine wpList_append_own_at _ rfl _ _ 23 rfl w.heap.size 62 ia (.agg #[AB 0,AB 0,AG,AG,AG,AG]) 6 112 underlying23 a9 iJ iI iH rfl AY _ _ _ rfl (G.alloc _) _ _ _ [AB 0,AB 0,AG,AG,AG,AG] rfl rfl BS yAg A6 AQ Bn ?_;intro v' A aL aC bW aV)
  have bJ:(w3.alloc (.cells #[AB 0,AB 0,AG,AG,AG,AG] 62)).grownBy A (some d):=aC;have qH:=WL (R':=(Fr Q w.heap.size w.heap.size)) (v:=AE (some (AK d 0)) l.length V) (n:=⟨⟨0,⟨0,[]⟩,[]⟩,[],[]⟩) (aK.imp λ_ _ _ h=>h.keep (Ac.of_below (Aa w3 (.cells #[AB 0,AB 0,AG,AG,AG,AG] 62)))) ⟨_,_,_,_,rfl,Tt _ _,Jk _ _,Y0 _ _,Tu _ _⟩ rfl bJ (λb f e=>f.2 yBi) (λb f=>f.1);have e6:l.length+1=(l++[(⟨⟨0,⟨0,[]⟩,[]⟩,[],[]⟩:Stil.B9)]).length:=AU
  go_ret;refine⟨l++[⟨⟨0,⟨0,[]⟩,[]⟩,[],[]⟩],_,rfl,Gi (by rw[e6] at aL;exact aL) qH (λb f=>Or.inr (aL.lt _ f).1),?_,by rw[<-e6];omega,Gl (Fh (Ci bP _) bJ BH) AQ,J8 (Ei bZ _) bJ BH⟩;intro a ha;rcases List.mem_append.1 ha with h | h
  ·exact⟨(U a h).1,by have:=(U a h).2;omega⟩
  ·rw[List.mem_singleton.1 h]
   refine⟨(Hr _ _ _).2 ⟨Yl,λ_ h=>BE,λ_ h=>BE⟩,?_⟩;rw[Gm,Fa];simp[Gu]
 have bG:((l.length:Int)==0)=false:=by rw[CS];omega
 go_upto_region 5 with(go_at_call_of 24 (Value.int IntKind.i64 10);refine(Fv g _ _ _ Av AQ AQ AQ).mono ?_;rintro e w4 ⟨x,rfl,bh,bi,gI,bF⟩)
 have iy:Ac (λb=>Fr Q w.heap.size w.heap.size b/\b≠d) w3 w4:=F7 (Ha HQ AQ bF) (λb _ h=>h.1);have dO:=AV (Cb G bF AQ);have aj:Hid (RowOf 6 (Qb (λb=>Fr Q w.heap.size w.heap.size b/\b≠d) w4) xs l):=aK.imp λ_ _ _ h=>h.keep iy
 have iK:=Ed bZ bF;have s4:=bF.size;clear G aK bP bZ bF iy;by_cases aF:x=0
 ·subst aF
  go_wp2_with (first | (go_at_call 50;refine(I5 g _ _ Av AQ).mono ?_;rintro e T ⟨s,ev,q,rfl,cO,dR,iT,rX,aA,I⟩;obtain⟨z,y,rfl,_,_⟩:=id dR) | (go_at_call 47;refine(Tq g _ _ Av AQ).mono ?_;rintro e A ⟨F,fv,D,rfl,xX,zN,xe,bY,aA,aC⟩;obtain⟨Y,Z,rfl,_,_⟩:=id zN))
  have s5:=I.size;have s6:=aC.size;have kc:∀{u v:World},u.grownBy v (some g)->Ac (λb=>Fr Q w.heap.size w.heap.size b/\b≠d) u v:=λh=>F7 (Ha HQ AQ h) (λb _ h=>h.1)
  have ka:∀(u:World) (o:Obj),Ac (λb=>Fr Q w.heap.size w.heap.size b/\b≠d) u (u.alloc o):=λu o=>Ac.of_below (Aa _ _)
  have aH:∀b,(λb=>Fr Q w.heap.size w.heap.size b/\b≠d) b->(FrO Q w.heap.size w.heap.size (AE (some (AK d 0)) l.length V)) b:=λb f=>⟨f.1,λe=>f.2 yBi⟩
  have a7:=((Fg dR).mono (λb _ f=>⟨Or.inr AQ,AQ⟩)).keep (kc aC);have bf:Bj (λb=>Fr Q w.heap.size w.heap.size b/\b≠d) A (AE Y D.length Z) D:=(Fg zN).mono (λb _ f=>⟨Or.inr AQ,AQ⟩);have ap:Dn (λb=>Fr Q w.heap.size w.heap.size b/\b≠d) ((A.alloc (.cells #[AB F,AE Y D.length Z] 46)).alloc (.cells #[AB 1,AB s,AE z q.length y,AG,AE (some (AL A 0)) 1 1,AG] 62)) (AE (some (AL A 0)) 1 1) [⟨F,D⟩]:=(LY (b:=A.heap.size) (ns:=[⟨F,D⟩]) rfl (RowOf.one (cs:=[AB F,AE Y D.length Z]) rfl ⟨_,rfl,bf⟩) ⟨Or.inr AQ,AQ⟩ AU).keep (ka _ _);have a5:Qb (FrO Q w.heap.size w.heap.size (AE (some (AK d 0)) l.length V)) ((A.alloc (.cells #[AB F,AE Y D.length Z] 46)).alloc (.cells #[AB 1,AB s,AE z q.length y,AG,AE (some (AL A 0)) 1 1,AG] 62)) [AB 1,AB s,AE z q.length y,AG,AE (some (AL A 0)) 1 1,AG] ⟨⟨1,⟨s,q⟩,[]⟩,[⟨F,D⟩],[]⟩:=Qb.mono (Q:=(λb=>Fr Q w.heap.size w.heap.size b/\b≠d)) ⟨_,_,_,_,rfl,(a7.keep (ka _ _)).keep (ka _ _),Jk _ _,ap,Tu _ _⟩ (λb _=>aH b);have aY:Jw ⟨⟨1,⟨s,q⟩,[]⟩,[⟨F,D⟩],[]⟩/\Gt ⟨⟨1,⟨s,q⟩,[]⟩,[⟨F,D⟩],[]⟩<=20:=by
   refine⟨(Hr _ _ _).2 ⟨Hl AY cO iT AQ,λc hc=>?_,λ_ h=>BE⟩,?_⟩
   ·rw[List.mem_singleton.1 hc];exact⟨xX,xe,by show D.length<=100000;omega⟩
   ·rw[Gm,Fa]
    simp[Gu,Qd];omega
  have a6:=AV aY;obtain⟨B,hB⟩:=AA (A.heap.size+1)
  have ab:∃(L:List Stil.B9) (R:List Value),((A.alloc (.cells #[AB F,AE Y D.length Z] 46)).alloc (.cells #[AB 1,AB s,AE z q.length y,AG,AE (some (AL A 0)) 1 1,AG] 62)).ownsRow w.heap.size 62 6 (AE (some (AK d 0)) l.length V) L.length R/\RowOf 6 (Qb (FrO Q w.heap.size w.heap.size (AE (some (AK d 0)) l.length V)) ((A.alloc (.cells #[AB F,AE Y D.length Z] 46)).alloc (.cells #[AB 1,AB s,AE z q.length y,AG,AE (some (AL A 0)) 1 1,AG] 62))) R L/\Qb (FrO Q w.heap.size w.heap.size (AE (some (AK d 0)) l.length V)) ((A.alloc (.cells #[AB F,AE Y D.length Z] 46)).alloc (.cells #[AB 1,AB s,AE z q.length y,AG,AE (some (AL A 0)) 1 1,AG] 62)) [AB 1,AB s,AE z q.length y,AG,AE (some (AL A 0)) 1 1,AG] ⟨⟨1,⟨s,q⟩,[]⟩,[⟨F,D⟩],[]⟩/\Nr ((A.alloc (.cells #[AB F,AE Y D.length Z] 46)).alloc (.cells #[AB 1,AB s,AE z q.length y,AG,AE (some (AL A 0)) 1 1,AG] 62)) B 1 s (AE z q.length y) AG (AE (some (AL A 0)) 1 1) AG/\(Value.slice (some (AK d 0)) l.length V).ownBlock≠some B/\(∀a∈L,Jw a/\Gt a<=N+2000)/\L.length<=K+41/\Ij ((A.alloc (.cells #[AB F,AE Y D.length Z] 46)).alloc (.cells #[AB 1,AB s,AE z q.length y,AG,AE (some (AL A 0)) 1 1,AG] 62)) g (P+200+L.length)/\w.grownBy ((A.alloc (.cells #[AB F,AE Y D.length Z] 46)).alloc (.cells #[AB 1,AB s,AE z q.length y,AG,AE (some (AL A 0)) 1 1,AG] 62)) (some g):=by
   refine⟨l,xs,((Cb (Cb dO I AQ) aC AQ).alloc _).alloc _,aj.imp λ_ _ _ h=>((((h.keep (kc I)).keep (kc aC)).keep (ka _ _)).keep (ka _ _)).mono (λb _=>aH b),a5,?_,?_,λa ha=>⟨(U a ha).1,by have:=(U a ha).2;omega⟩,AQ,?_,?_⟩
   ·rw[hB]
    refine⟨AU,?_,?_,?_,?_,?_,?_,?_,?_,?_,?_,?_,?_⟩<;>simp[go_sem]
   ·intro e
    have:d=B:=by simpa[Value.ownBlock] using e
    omega
   ·exact Gl (Ci (Ci aA _) _) AQ
   ·exact Ei (Ei (Ed (Ed iK I) aC) _) _
  rw[<-hB];have bS:w.heap.size<=B:=AQ
  clear aY a5 ap bf a7 aH ka kc dR zN iT xe dO aj I aC iK gI hB;go_loopw [5] (λo J=>∃(L:List Stil.B9) (R:List Value),J.ownsRow w.heap.size 62 6 o L.length R/\RowOf 6 (Qb (FrO Q w.heap.size w.heap.size o) J) R L/\Qb (FrO Q w.heap.size w.heap.size o) J [AB 1,AB s,AE z q.length y,AG,AE (some (AL A 0)) 1 1,AG] ⟨⟨1,⟨s,q⟩,[]⟩,[⟨F,D⟩],[]⟩/\Nr J B 1 s (AE z q.length y) AG (AE (some (AL A 0)) 1 1) AG/\o.ownBlock≠some B/\(∀a∈L,Jw a/\Gt a<=N+2000)/\L.length<=K+41/\Ij J g (P+200+L.length)/\w.grownBy J (some g)) (λo _=>41 - lenV o)
  case atStart=>exact ab
  case round=>
   clear ab;obtain⟨L,R,aa,ac,aZ,af,aw,bm,bX,sO,pY⟩:=hrel;obtain⟨o1,c2,ho,-⟩:=Hq aa;subst ho;have G:=AV aa;have ae:=AV ac;have uk:=AV aZ;have dH:=AV af;have jB:=AV aw;have xq:=AV bm;have b9:=af.1;have aW:Hid (∀b,(FrO Q w.heap.size w.heap.size (AE o1 L.length c2)) b->some g≠some b):=λb f e=>by
    simp only[C0] at e;rcases f.1 with h | h
    ·have:=HQ b h.1;omega
    ·omega
   clear aa ac aZ af aw bm
   go_wp2_with (first | (go_at_call_of 24 (Value.int IntKind.i64 2);refine(Fv g _ _ _ sO AQ AQ AQ).mono ?_;rintro e t ⟨aE,rfl,ag,ar,lX,C⟩;have lD:=AV (dH.grownO C BD);obtain⟨bC,q0,q1,q2,q3,q4,q5,p0,p1,p2,p3,p4,p5⟩:=lD.out) | (at_builtin;refine wpList_append_own_at _ rfl _ _ 23 rfl w.heap.size 62 ia (.agg #[AB 0,AB 0,AG,AG,AG,AG]) 6 112 underlying23 a9 iJ iI iH rfl AY _ _ _ rfl ((Cb G C AQ).alloc _) _ _ _ [AB 1,AB s,AE z q.length y,AG,AE (some (AL A 0)) 1 1,AG] rfl rfl BS yAg A6 AQ (by simp only[World.size_alloc];have:=C.size;omega) ?_;intro v' w8 bU H gy iQ;clear q0 q1 q2 q3 q4 q5 p0 p1 p2 p3 p4 p5))
   ·have kg:=Ac.of_grown C (λb f e=>aW b f e)
    have kk:Ac (FrO Q w.heap.size w.heap.size (AE o1 L.length c2)) wr (t.alloc (.cells #[AB 1,AB s,AE z q.length y,AG,AE (some (AL A 0)) 1 1,AG] 62)):=kg.trans (Ac.of_below (Aa _ _));have s7:=C.size;have e6:L.length+1=(L++[(⟨⟨1,⟨s,q⟩,[]⟩,[⟨F,D⟩],[]⟩:Stil.B9)]).length:=AU
    have bA:=R7 (uk.keep kk) H iQ;have bu:RowOf 6 (Qb (FrO Q w.heap.size w.heap.size v') w8) (R++[AB 1,AB s,AE z q.length y,AG,AE (some (AL A 0)) 1 1,AG]) (L++[⟨⟨1,⟨s,q⟩,[]⟩,[⟨F,D⟩],[]⟩]):=((ae.imp λ_ _ _ h=>h.keep kk).append (RowOf.one rfl (uk.keep kk))).imp λ_ _ _ h=>R7 h H iQ
    refine⟨⟨L++[⟨⟨1,⟨s,q⟩,[]⟩,[⟨F,D⟩],[]⟩],_,by rw[e6] at bU;exact bU,bu,bA,(lD.alloc _).grownO H (λe=>jB e),eW jB iQ B0,?_,by rw[<-e6];omega,?_,?_⟩,?_⟩
    ·intro a ha
     rcases List.mem_append.1 ha with h | h
     ·exact xq a h
     ·rw[List.mem_singleton.1 h];exact⟨a6.1,by have:=a6.2;omega⟩
    ·exact Gl (Fh (Ci lX _) H (λk O=>by have:=(G.lt _ O).1;omega)) (by rw[<-e6];omega)
    ·exact J8 (Ei (Ed pY C) _) H (λk O=>(G.lt _ O).1)
    ·obtain⟨o3,c3,bw,-⟩:=Hq bU
     rw[bw];show 41 - (L.length+1)<41 - L.length
     omega
   ·have kg:=Ac.of_grown C (λb f e=>aW b f e)
    go_ret;exact⟨L,_,rfl,Gi (Cb G C AQ) (ae.imp λ_ _ _ h=>(h.keep kg).mono λb _ f=>f.1) (λb f=>Or.inr (G.lt _ f).1),xq.out,AQ,Gl lX AQ,Ed pY C⟩
 by_cases aS:x=1
 ·subst aS
  clear bh bi aF;go_upto_region 12 with(go_at_call_of 24 (l.length:Nat);refine(Fv g _ _ _ gI AQ AQ AQ).mono ?_;rintro e T ⟨aE,rfl,ag,ar,jF,I⟩;obtain⟨j,rfl⟩:=FW ag;have hj:j<l.length:=AQ;clear ag ar)
  have au:Ac (λb=>Fr Q w.heap.size w.heap.size b/\b≠d) w4 T:=F7 (Ha HQ AQ I) (λb _ h=>h.1);have mY:=AV (Cb dO I AQ);have lS:Hid (RowOf 6 (Qb (λb=>Fr Q w.heap.size w.heap.size b/\b≠d) T) xs l):=aj.imp λ_ _ _ h=>h.keep au
  have sV:=Ed iK I;have s5:=I.size;have hts:Aw l<=50000000:=by
   have h1:=PS U.out;have h2:l.length*(2+2*N)<=1000*(2+2*N):=E6 _ AQ;omega
  have yD:=AV (N4 l _ T (Gi (P:=λ_=>True) mY (lS.imp λ_ _ _ h=>h.mono λ_ _ _=>trivial) (λ_ _=>trivial)).at AQ (PT U AQ));obtain⟨aG,hS⟩:=AA (Aw l)
  rw[<-hS] at yD hts;clear dO aj gI iK I au hS;go_upto_region 13 with(first | (go_at_call 32;refine yD.mono ?_;rintro e A ⟨rfl,ak⟩) | (go_at_call_of 24 (Value.int IntKind.i64 2);refine(Fv g _ _ _ (Fh jF (grown_below ak none) (λk O=>by cases O)) AQ AQ AQ).mono ?_;rintro e t ⟨aE,rfl,ag,ar,lX,C⟩))
  have s6:=ak.size;have s7:=C.size;have yI:=AV (Cb (OT mY (grown_below ak none) (λ_ _ h=>by cases h)) C AQ);have oP:Ac (λb=>Fr Q w.heap.size w.heap.size b/\b≠d) T t:=(Ac.of_below ak).trans (F7 (Ha HQ AQ C) (λb _ h=>h.1));have aM:Hid (RowOf 6 (Qb (λb=>(Fr Q w.heap.size w.heap.size b/\b≠d)/\b<t.heap.size) t) xs l):=lS.imp λ_ _ _ h=>(h.keep oP).mono λb f h=>⟨h,f⟩
  have jb:=Ed (Ed sV (grown_below ak _)) C;have bT:d<t.heap.size:=AQ
  clear mY lS sV oP yD C ak jF;obtain⟨av,nv,cv,kv,r0,r1,r2,r3,r4,r5,ao,ax,ay,al,az⟩:=Lq yI aM hj;clear ao ax ay az r0 r1 r2 r3 r5;have S:=AV (U _ (CJ hj));obtain⟨X,hX⟩:=AA (l[j])
  rw[<-hX] at S al;have HX:=AV hX;have rC:=AV al;obtain⟨u3,t3,rfl,-⟩:=al;have bH:X.coils.length<=20000:=by have:=(QE X []).1;have:=S.2;omega
  clear hX;go_upto_region 14 with(at_builtin;refine Qe rfl _ _ rfl (λb=>(Fr Q w.heap.size w.heap.size b/\b≠d)/\b<t.heap.size) t X.coils (AE u3 X.coils.length t3) rfl rfl rfl rC AQ ?_;intro b2 l9 w8 a3 bU vC bN bI H;have bk:=AV bU;have aX:Hid (RowOf 2 (N8 (λb=>(λb=>(Fr Q w.heap.size w.heap.size b/\b≠d)/\b<t.heap.size) b/\b<t.heap.size) w8) a3 X.coils):=vC;have zU:Hid ((t.alloc (.cells #[] 46)).grownBy w8 (some t.heap.size)):=H;clear bU vC H)
  clear r4;have s8:=zU.size;rw[World.size_alloc] at s8;have bn:Ij w8 g (P+3):=Gl (Fh (Ci lX _) zU BH) AQ
  go_wp2_with (go_at_call 47;refine(Tq g _ _ Av AQ).mono ?_;rintro e W ⟨s,ev,q,rfl,cO,dR,iT,rX,aA,nX⟩;obtain⟨z,y,rfl,_,_⟩:=id dR)
  have s9:=nX.size;obtain⟨B,hB⟩:=AA W.heap.size
  have aT:Hid (Yh ⟨s,q⟩/\q.length<=3):=⟨⟨cO,iT,by show q.length<=100000;omega⟩,rX⟩
  have bc:Ac (λb=>(Fr Q w.heap.size w.heap.size b/\b≠d)/\b<t.heap.size) t w8:=(Ac.of_below (Aa _ _)).trans (Ac.of_grown zU (λb f e=>by simp only[C0] at e;have:=f.2;omega));have aQ:Ac (λb=>(Fr Q w.heap.size w.heap.size b/\b≠d)/\b<t.heap.size) w8 (W.alloc (.cells #[AB s,AE z q.length y] 46)):=(F7 (Ha HQ AQ nX) (λb _ h=>h.1.1)).trans (Ac.of_below (Aa _ _));have ab:∃(E:List Stil.Elem) (R:List Value) (m:Nat),(Value.int .i64 0)=AB m/\m<=401/\(W.alloc (.cells #[AB s,AE z q.length y] 46)).ownsRow t.heap.size 46 2 (Value.slice (some (AK b2 0)) X.coils.length l9) E.length R/\RowOf 2 (N8 (GK (λb=>Fr Q w.heap.size w.heap.size b/\b≠d) (Value.slice (some (AK b2 0)) X.coils.length l9)) (W.alloc (.cells #[AB s,AE z q.length y] 46))) R E/\N8 (GK (λb=>Fr Q w.heap.size w.heap.size b/\b≠d) (Value.slice (some (AK b2 0)) X.coils.length l9)) (W.alloc (.cells #[AB s,AE z q.length y] 46)) [AB s,AE z q.length y] ⟨s,q⟩/\Yg (W.alloc (.cells #[AB s,AE z q.length y] 46)) B s (AE z q.length y)/\(Value.slice (some (AK b2 0)) X.coils.length l9).ownBlock≠some B/\(∀x∈E,Yh x)/\Gu E<=Gu X.coils+4*m/\(W.alloc (.cells #[AB s,AE z q.length y] 46)).ownsRow w.heap.size 62 6 (AE (some (AK d 0)) l.length V) l.length xs/\RowOf 6 (Qb (λb=>(Fr Q w.heap.size w.heap.size b/\b≠d)/\b<t.heap.size) (W.alloc (.cells #[AB s,AE z q.length y] 46))) xs l/\Ij (W.alloc (.cells #[AB s,AE z q.length y] 46)) g (P+200)/\w.grownBy (W.alloc (.cells #[AB s,AE z q.length y] 46)) (some g)/\t.heap.size<=(W.alloc (.cells #[AB s,AE z q.length y] 46)).heap.size:=by
   refine⟨X.coils,a3,0,rfl,AQ,(Cb bk nX AQ).alloc _,aX.imp λ_ _ _ h=>((h.mono λb _ f=>f.1).keep aQ).mono λb _ f=>⟨f.1,λe=>?_⟩,⟨_,rfl,((Fg dR).mono (P:=GK (λb=>Fr Q w.heap.size w.heap.size b/\b≠d) (Value.slice (some (AK b2 0)) X.coils.length l9)) λb _ f=>⟨⟨Or.inr AQ,AQ⟩,λe=>?_⟩).keep (Ac.of_below (Aa _ _))⟩,?_,?_,S.1.parts.2.1,AQ,?_,aM.imp λ_ _ _ h=>(h.keep bc).keep aQ,Gl (Ci aA _) AQ,?_,by rw[World.size_alloc];omega⟩
   ·have:b2=b:=by simpa[Value.ownBlock] using e
    have:=f.2
    omega
   ·have:b2=b:=by simpa[Value.ownBlock] using e
    omega
   ·rw[hB]
    refine⟨AU,?_,?_,?_,?_⟩<;>simp[go_sem]
   ·intro e
    have:b2=B:=by simpa[Value.ownBlock] using e
    omega
   ·refine(Cb (OT (yI.alloc _) zU (λk O=>?_)) nX AQ).alloc _
    have:d=k:=by simpa[Value.ownBlock] using O
    simp only[ne_eq,C0];omega
   ·exact Ei (Ed (J8 (Ei jb _) zU BH) nX) _
  rw[<-hB];obtain⟨ie,bs,mF,mD,lZ⟩:=info_parts LO;clear bc aQ bk aX zU yI aM rC nX dR iT bn jb lX hB;go_loopw [9,11] (λc i J=>∃(E:List Stil.Elem) (R:List Value) (m:Nat),i=AB m/\m<=401/\J.ownsRow t.heap.size 46 2 c E.length R/\RowOf 2 (N8 (GK (λb=>Fr Q w.heap.size w.heap.size b/\b≠d) c) J) R E/\N8 (GK (λb=>Fr Q w.heap.size w.heap.size b/\b≠d) c) J [AB s,AE z q.length y] ⟨s,q⟩/\Yg J B s (AE z q.length y)/\c.ownBlock≠some B/\(∀x∈E,Yh x)/\Gu E<=Gu X.coils+4*m/\J.ownsRow w.heap.size 62 6 (AE (some (AK d 0)) l.length V) l.length xs/\RowOf 6 (Qb (λb=>(Fr Q w.heap.size w.heap.size b/\b≠d)/\b<t.heap.size) J) xs l/\Ij J g (P+200)/\w.grownBy J (some g)/\t.heap.size<=J.heap.size) (λ_ i _=>401 - (intOf i).toNat)
  case atStart=>exact ab
  case round=>
   clear ab;obtain⟨E,R,m,rfl,hm,aa,ac,ap,af,aw,aU,bp,a2,bg,sO,pY,bL⟩:=hrel;obtain⟨o1,c2,ho,-⟩:=Hq aa;subst ho;have G:=AV aa;have ae:=AV ac;have ba:=AV ap;have dH:=AV af;have jB:=AV aw;have xu:=AV aU;have aR:=AV a2;have aO:=AV bg;have br:Gu E=E.length+(E.map Qd).sum:=rfl;have b6:=(QE X []).2.1;have b7:=S.2;have b1:E.length<=30000:=AQ
   have bK:=af.1;have bD:∀k,(Value.slice o1 E.length c2).ownBlock=some k->d≠k:=λk O=>by have:=(G.lt k O).1;omega
   clear aa ac ap af aw aU a2 bg br;by_cases b8:(m:Int)<400 - aG+aE
   ·obtain⟨bC,q0,q1,p0,p1⟩:=dH.out
    go_wp2_with (at_builtin;refine wpList_append_own_at _ rfl _ _ 60 rfl t.heap.size 46 ie (.agg #[AB 0,AG]) 2 32 underlying60 bs mF mD lZ rfl AY _ _ _ rfl (G.alloc _) _ _ _ [AB s,AE z q.length y] rfl rfl BS yCf A6 AQ Bn ?_;intro v' b0 bU H gy iQ)
    have ka:Ac (GK (λb=>Fr Q w.heap.size w.heap.size b/\b≠d) (Value.slice o1 E.length c2)) wr (wr.alloc (.cells #[AB s,AE z q.length y] 46)):=Ac.of_below (Aa _ _);have e6:E.length+1=(E++[(⟨s,q⟩:Stil.Elem)]).length:=AU
    have bq:=H.size;rw[World.size_alloc] at bq;refine⟨⟨E++[⟨s,q⟩],_,m+1,by go_num,AQ,by rw[e6] at bU;exact bU,((ae.imp λ_ _ _ h=>h.keep ka).append (RowOf.one rfl (ba.keep ka))).imp λ_ _ _ h=>Z1 h H iQ,Z1 (ba.keep ka) H iQ,UR (UR dH (grown_below (Aa wr _) none) AU) H (λe=>jB e),eW jB iQ B0,?_,?_,OT (aR.alloc _) H (λk O e=>?_),aO.imp λ_ _ _ h=>(h.keep (Ac.of_below (Aa _ _))).keep (Ac.of_grown H (λb f e=>?_)),Fh (Ci sO _) H (λk O=>by have:=(G.lt _ O).1;omega),J8 (Ei pY _) H (λk O=>by have:=(G.lt _ O).1;omega),AQ⟩,by simp[intOf];omega⟩
    ·intro x hx
     rcases List.mem_append.1 hx with h | h
     ·exact xu x h
     ·rw[List.mem_singleton.1 h];exact aT.1
    ·have h3:=aT.2
     simp only[Gu,CO,CU,GF,CH,CP,CQ,C6,DO,GH,Qd] at bp ⊢;omega
    ·have:d=k:=by simpa[Value.ownBlock] using O
     exact bD k e this
    ·have h1:=(G.lt b e).1
     have h2:=f.2;omega
   ·obtain⟨av,nv,cv,kv,r0,r1,r2,r3,r4,r5,ao,-,-,-,-⟩:=Lq aR aO hj
    have f4:=ao (j*6+4);clear r0 r1 r2 r3 r5 ao;have a8:=Jr G (ae.imp λ_ _ _ h=>h.mono λb _ f=>f.1) (λb f=>by have h1:=(G.lt b f).1;exact⟨Or.inr AQ,AQ⟩);obtain⟨ys,an,aD⟩:=f8 aR (aO.imp λ_ _ _ h=>h.mono λb _ f=>f.1) hj (λh=>h.2 rfl) a8;have bv:Hid (Fe (Fr Q w.heap.size w.heap.size) (wr.setCell (AK d (j*6+4)) (Value.slice o1 E.length c2)) (AE (some (AK d 0)) l.length V) (l.set j ⟨l[j].net,E,l[j].kids⟩)):=by
     have e:l.length=(l.set j (⟨l[j].net,E,l[j].kids⟩:Stil.B9)).length:=AU
     rw[e] at an
     have h:=Gi (P:=(Fr Q w.heap.size w.heap.size)) an (aD.imp λ_ _ _ h=>h.mono λb _ f=>f.1) (λb f=>by
      have:d=b:=by simpa[Value.ownBlock] using f
      exact Or.inr AQ)
     rw[<-e] at h;exact h
    clear an aD a8
    go_wp2
    go_ret;refine⟨_,_,rfl,bv.out,?_,by rw[JR];omega,Gl (Ku sO AQ _) AQ,Oa dW pY _⟩;intro a ha;rcases M5 ha with h | rfl
    ·exact⟨(U a h).1,by have:=(U a h).2;omega⟩
    ·rw[<-HX.out]
     refine⟨(Hr _ _ _).2 ⟨S.1.parts.1,xu.out,S.1.parts.2.2⟩,?_⟩;have:=(QE X E).2.2
     omega
 clear bh bi;have cd:(x==0)=false:=by rw[CS];exact aF
 have bM:(x==1)=false:=by rw[CS];exact aS
 go_upto_region 22 with(go_at_call_of 24 (l.length:Nat);refine(Fv g _ _ _ gI AQ AQ AQ).mono ?_;rintro e T ⟨aE,rfl,ag,ar,jF,I⟩;obtain⟨j,rfl⟩:=FW ag;have hj:j<l.length:=AQ;clear ag ar)
 have au:Ac (λb=>Fr Q w.heap.size w.heap.size b/\b≠d) w4 T:=F7 (Ha HQ AQ I) (λb _ h=>h.1);have mY:=AV (Cb dO I AQ);have lS:Hid (RowOf 6 (Qb (λb=>Fr Q w.heap.size w.heap.size b/\b≠d) T) xs l):=aj.imp λ_ _ _ h=>h.keep au
 have sV:=Ed iK I;have s5:=I.size;have ah:d<T.heap.size:=AQ
 clear dO aj gI iK I au;obtain⟨av,nv,cv,kv,r0,r1,r2,r3,r4,r5,ao,ax,ay,al,az⟩:=Lq mY lS hj;clear ao;have S:=AV (U _ (CJ hj));have HI:=
  AV (r7 _ _ g (P+1+1) T av nv cv kv (λb f=>by rcases f.1 with h | h;exact HQ b h.1;omega) ax ay al az S.1 (by have:=S.2;omega) jF (by have:=S.2;omega))
 obtain⟨X,hX⟩:=AA (l[j])
 rw[<-hX] at HI S r0 r1;obtain⟨u1,t1,rfl,-⟩:=ax;obtain⟨u2,t2,rfl,-⟩:=ay;obtain⟨u3,t3,rfl,-⟩:=al;obtain⟨u4,t4,rfl,-⟩:=az;clear hX jF;go_upto_region 23 with(go_at_call 51;refine HI.mono ?_;rintro e t ⟨M,xh,bO,bR,ca,rfl,gW,kJ,qA,kL,rU,rQ,lX,C⟩;have uT:=AV gW;have kE:=AV kJ;have yl:=AV qA;have bo:=AV kL;have oh:=AV rU;have bV:=Cb mY C AQ;obtain⟨d0,d1,d2,d3,d4,d5,f0,f1,f2,f3,f4,f5⟩:=(⟨bV.frozenAt (j*6),bV.frozenAt (j*6+1),bV.frozenAt (j*6+2),bV.frozenAt (j*6+3),bV.frozenAt (j*6+4),bV.frozenAt (j*6+5),(Dk C ah AQ).trans r0,(Dk C ah AQ).trans r1,(Dk C ah AQ).trans r2,(Dk C ah AQ).trans r3,(Dk C ah AQ).trans r4,(Dk C ah AQ).trans r5⟩:t.frozen? (AK d (j*6))=false/\t.frozen? (AK d (j*6+1))=false/\t.frozen? (AK d (j*6+2))=false/\t.frozen? (AK d (j*6+3))=false/\t.frozen? (AK d (j*6+4))=false/\t.frozen? (AK d (j*6+5))=false/\t.cell? (AK d (j*6))=_/\t.cell? (AK d (j*6+1))=_/\t.cell? (AK d (j*6+2))=_/\t.cell? (AK d (j*6+3))=_/\t.cell? (AK d (j*6+4))=_/\t.cell? (AK d (j*6+5))=_);obtain⟨y1,z1,rfl,-⟩:=gW;obtain⟨y2,z2,rfl,-⟩:=kJ;obtain⟨y3,z3,rfl,-⟩:=qA;obtain⟨y4,z4,rfl,-⟩:=kL;clear bV rU r0 r1 r2 r3 r4 r5)
 obtain⟨ai,hW⟩:=AA ((((((t.setCell (AK d (j*6)) (AB M.net.kind)).setCell (AK d (j*6+1)) (AB M.net.one.op)).setCell (AK d (j*6+2)) (AE y1 M.net.one.args.length z1)).setCell (AK d (j*6+3)) (AE y2 M.net.kids.length z2)).setCell (AK d (j*6+4)) (AE y3 M.coils.length z3)).setCell (AK d (j*6+5)) (AE y4 M.kids.length z4))
 rw[<-hW];have s7:=C.size;have aB:∀b,b<t.heap.size->Fr (λb=>Fr Q w.heap.size w.heap.size b/\b≠d) T.heap.size T.heap.size b->Fr Q w.heap.size w.heap.size b/\b≠d:=λb _ h=>by
  rcases h with h | h
  ·exact h.1
  ·exact⟨Or.inr AQ,AQ⟩
 have oP:Ac (λb=>Fr Q w.heap.size w.heap.size b/\b≠d) T t:=F7 (Ha HQ AQ C) (λb _ h=>h.1);have ab:=SE (Cb mY C AQ) (lS.imp λ_ _ _ h=>h.keep oP) hj (λh=>h.2 rfl) (uT.mono aB) (kE.mono aB) (yl.mono aB) (bo.mono aB);have bj:ai=set6 t d (j*6) (AB M.net.kind) (AB M.net.one.op) (AE y1 M.net.one.args.length z1) (AE y2 M.net.kids.length z2) (AE y3 M.coils.length z3) (AE y4 M.kids.length z4):=hW;rw[<-bj] at ab;obtain⟨ys,an,aD⟩:=ab;have bz:Ij ai g (P+300000):=by
  have:=S.2
  rw[hW];exact Gl (Ku (Ku (Ku (Ku (Ku (Ku (lX) AQ _) AQ _) AQ _) AQ _) AQ _) AQ _) AQ
 have bB:w.grownBy ai (some g):=by
  rw[hW];exact Oa dW (Oa dW (Oa dW (Oa dW (Oa dW (Oa dW (Ed sV C) _) _) _) _) _) _
 have bE:Fe (Fr Q w.heap.size w.heap.size) ai (AE (some (AK d 0)) l.length V) (l.set j M):=by
  have e:l.length=(l.set j M).length:=AU
  rw[e] at an ⊢
  exact Gi an (aD.imp λ_ _ _ h=>h.mono λb _ f=>f.1) (λb f=>by
   have:d=b:=by simpa[Value.ownBlock] using f
   exact Or.inr AQ)
 clear hW bj
 go_wp2
 go_ret;refine⟨l.set j M,_,rfl,bE,?_,by rw[JR];omega,bz,bB⟩;intro a ha;rcases M5 ha with h | rfl
 ·exact⟨(U a h).1,by have:=(U a h).2;omega⟩
 ·exact⟨oh.out,by have:=S.2;omega⟩
