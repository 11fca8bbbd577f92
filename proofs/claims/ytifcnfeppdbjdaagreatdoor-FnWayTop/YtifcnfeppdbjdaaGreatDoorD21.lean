import Derived.Test.YtifcnfeppdbjdaaGreatDoorHb
import Derived.Test.YtifcnfeppdbjdaaGreatDoorHc
namespace Go.Proofs.YtifcnfeppdbjdaaGreatDoor
open Tryz Stil Go.RowKit Go.Sort Go.BigFrame
variable {base n:Nat}{cs xs:List Value}{r:Option Nat}{v v':Value}{w':World}
def Rr (Q:Nat->Prop)(e:Ending)(w w':World)(g P N k:Nat):Prop:=∃(l:List Stil.B8) (v:Value),e=.returned v/\Em (Fr Q w.heap.size w.heap.size) w' v l/\(∀a∈l,Jj a/\Gs a<=N)/\l.length<=k/\Ig w' g P/\w.grownBy w' (some g)
theorem eJ {Q:Nat->Prop}{m:Nat}{w:World}{a:Stil.B8}(h:N9 (FrO Q n m v) w cs a)(hg:w.grownBy w' v.ownBlock)(f:v'.ownBlock=v.ownBlock\/v'.ownBlock=some w.heap.size):N9 (FrO Q n m v') w' cs a:=by
 have d:N9 (λb=>FrO Q n m v b/\FrO Q n m v' b) w cs a:=h.mono λb g c=>⟨c,c.1,λe=>by
  rcases f with h | h
  ·exact c.2 (h ▸ e)
  ·rw[h] at e
   simp only[CZ] at e
   omega⟩
 exact(d.keep (Gi (FrO.keep hg) λb _ c=>c.1)).mono λb _ c=>c.2
theorem eG {B:Nat}(h:v.ownBlock≠some B)(a:v'.ownBlock=v.ownBlock\/v'.ownBlock=some n)(b:B<n):v'.ownBlock≠some B:=by
 rcases a with e | e
 ·rw[e];exact h
 ·rw[e]
  intro e;simp only[CZ] at e;omega
theorem PC {w:World}{e:TypeId}{size:Nat}(h:w.ownsRow base e size v n xs)(hg:w.grownBy w' r)(hr:∀k,v.ownBlock=some k->r≠some k):w'.ownsRow base e size v n xs:=by
 refine⟨h.1,?_⟩;rcases h.2 with g | ⟨k,cap,cur,b,c,d,f⟩
 ·exact Or.inl g
 ·have a:v.ownBlock=some k:=by rw[b];rfl
  exact Or.inr ⟨k,cap,cur,b,c,by rw[hg.block k (h.lt k a).2 (λe=>hr k a e.symm)];exact d,f⟩
def FZ (R:Nat->Prop)(v:Value)(b:Nat):Prop:=R b/\v.ownBlock≠some b
theorem ZK {R:Nat->Prop}{w:World}{a:Stil.Elem}(h:Nw (FZ R v) w cs a)(hg:w.grownBy w' v.ownBlock)(g:v'.ownBlock=v.ownBlock\/v'.ownBlock=some w.heap.size):Nw (FZ R v') w' cs a:=by
 have f:Nw (λb=>FZ R v b/\FZ R v' b) w cs a:=h.mono λb d c=>⟨c,c.1,λe=>by
  rcases g with h | h
  ·exact c.2 (h ▸ e)
  ·rw[h] at e
   simp only[CZ] at e
   omega⟩
 exact(f.keep (Gi (Ac.of_grown (P:=FZ R v) hg λ_ d=>d.2) λb _ c=>c.1)).mono λb _ c=>c.2
theorem TN {w:World}{b:Nat}{op:Int}(h:Xz w b op v)(hg:w.grownBy w' r)(hr:r≠some b):Xz w' b op v:=by
 obtain⟨d,f⟩:=h;have e:=hg.block b d (λx=>hr x.symm);have c:∀o,w'.cell? (AK b o)=w.cell? (AK b o):=λo=>by unfold World.cell?;rw[e]
 have a:∀o,w'.frozen? (AK b o)=w.frozen? (AK b o):=λo=>by unfold World.frozen?;rw[e]
 refine⟨CB d hg.size,?_⟩;rw[c,c,a,a];exact f
theorem ff {R:Nat->Prop}{w:World}{a cap k:Nat}{ns:List Stil.B8}{E:List Stil.Elem}{b:Value}(h:w.ownsRow base 62 6 (AE (some (AK a 0)) n cap) n xs)(hr:RowOf 6 (N9 R w) xs ns)(e:k<ns.length)(m:¬R a)(t:Dq R w b E):
  ∃g,(w.setCell (AK a (k*6+4)) b).ownsRow base 62 6 (AE (some (AK a 0)) n cap) n g/\RowOf 6 (N9 R (w.setCell (AK a (k*6+4)) b)) g (ns.set k ⟨ns[k].net,E,ns[k].kids⟩):=by
 refine⟨_,(h.stored (k*6+4) _).1,?_⟩;have d:Ac R w (w.setCell (AK a (k*6+4)) b):=Ac.set m _;obtain⟨o,i,z,l,u,s,x,y,q⟩:=hr.2 k e;have c:=JS hr e u;have A:=hr.1;refine RowOf.set (hr.imp λ_ _ _ h=>h.keep d) e AU ⟨o,i,b,l,?_,s.keep d,x.keep d,t.keep d,q.keep d⟩ ?_
 ·apply K2
  intro j;rw[GN];by_cases f:j<6
  ·rw[if_pos f,GO]
   have:j=0\/j=1\/j=2\/j=3\/j=4\/j=5:=AQ
   rcases this with rfl | rfl | rfl | rfl | rfl | rfl
   ·rw[CY AQ];exact c 0 _ rfl
   ·rw[CY AQ];exact c 1 _ rfl
   ·rw[CY AQ];exact c 2 _ rfl
   ·rw[CY AQ];exact c 3 _ rfl
   ·rw[Db AQ];rfl
   ·rw[CY AQ];exact c 5 _ rfl
  ·rw[if_neg f,J2 Ax]
 ·intro j f
  rw[CY AQ]
theorem PZ (X:Stil.B8)(E:List Stil.Elem):X.coils.length<=Gs X/\Gx X.coils<=Gs X/\Gs ⟨X.net,E,X.kids⟩+Gx X.coils=Gs X+Gx E:=by
 obtain⟨n,cs,a⟩:=X;have c:=Fv n cs a;have d:=Fv n E a;have b:Gx cs=cs.length+(cs.map Pv).sum:=rfl;show cs.length<=Gs ⟨n,cs,a⟩/\Gx cs<=Gs ⟨n,cs,a⟩/\Gs ⟨n,E,a⟩+Gx cs=Gs ⟨n,cs,a⟩+Gx E
 omega
set_option maxHeartbeats 4000000 in
set_option maxRecDepth 100000 in
theorem Axq (Q:Nat->Prop)(g P N K:Nat)(w:World)(v:Value)(l:List Stil.B8)(hQ:∀b,Q b->g<b)(hv:Em Q w v l)(ht:∀a∈l,Jj a/\Gs a<=N)(hl:l.length<=K)(hK:K<=1000)(hN:N<=20000)(hr:Ig w g P)(hP:P<=2000000):
  Calls prog 74 #[AH g,v] w λe w'=>Rr Q e w w' g (P+300000) (N+2000) (K+100):=by
 have hg:=Va hr;obtain⟨ia,aV,iI,iH,iG⟩:=info_parts Zd;have HV:=AV hv;have U:=AV ht;have HQ:=AV hQ;obtain⟨a1,c1,rfl,-⟩:=hv;clear ht hQ;go_enter func74,ntmps74;go_upto_region 2 with(at_builtin;refine Rx rfl _ _ rfl Q w l (AE a1 l.length c1) rfl rfl rfl HV AQ ?_;intro d W w3 xs aa ae dX gU aI;have I:=AV aa;have ab:=AV ae;have dJ:Hid ((w.alloc (.cells #[] 62)).grownBy w3 (some w.heap.size)):=aI;clear aa ae aI)
 have s3:=dJ.size;rw[World.size_alloc] at s3;have aL:Hid (RowOf 6 (N9 (λb=>Fr Q w.heap.size w.heap.size b/\b≠d) w3) xs l):=ab.imp λ_ _ _ h=>h.mono λb _ f=>⟨Or.inl f,by have:=f.2;omega⟩
 have bK:=Fj (Bl hr _) dJ BH;have cO:w.grownBy w3 (some g):=J5 (Ea (Nq _ _) _) dJ BH;clear ab dJ HV hr;by_cases bH:l.length=0
 ·have hz:((l.length:Int)==0)=true:=by rw[EC];omega
  go_wp2_with (at_builtin;refine wpList_append_own_at _ rfl _ _ 23 rfl w.heap.size 62 ia (.agg #[AB 0,AB 0,AG,AG,AG,AG]) 6 112 underlying23 aV iI iH iG rfl AY _ _ _ rfl (I.alloc _) _ _ _ [AB 0,AB 0,AG,AG,AG,AG] rfl rfl BP yAh A6 AQ Bw ?_;intro v' A aN aC bT aW)
  have bJ:(w3.alloc (.cells #[AB 0,AB 0,AG,AG,AG,AG] 62)).grownBy A (some d):=aC;have qF:=VD (R':=(Fr Q w.heap.size w.heap.size)) (v:=AE (some (AK d 0)) l.length W) (n:=⟨⟨0,⟨0,[]⟩,[]⟩,[],[]⟩) (aL.imp λ_ _ _ h=>h.keep (Ac.of_below (Aa w3 (.cells #[AB 0,AB 0,AG,AG,AG,AG] 62)))) ⟨_,_,_,_,rfl,Tc _ _,Jr _ _,Yj _ _,Qr _ _⟩ rfl bJ (λb f e=>f.2 yBj) (λb f=>f.1);have e6:l.length+1=(l++[(⟨⟨0,⟨0,[]⟩,[]⟩,[],[]⟩:Stil.B8)]).length:=AU
  go_ret;refine⟨l++[⟨⟨0,⟨0,[]⟩,[]⟩,[],[]⟩],_,rfl,Fq (by rw[e6] at aN;exact aN) qF (λb f=>Or.inr (aN.lt _ f).1),?_,by rw[<-e6];omega,F6 (Fj (Bl bK _) bJ BH) AQ,J5 (Ea cO _) bJ BH⟩;intro a ha;rcases List.mem_append.1 ha with h | h
  ·exact⟨(U a h).1,by have:=(U a h).2;omega⟩
  ·rw[List.mem_singleton.1 h]
   refine⟨(G5 _ _ _).2 ⟨X6,λ_ h=>BE,λ_ h=>BE⟩,?_⟩;rw[Fv,E5];simp[Gx]
 have bE:((l.length:Int)==0)=false:=by rw[CS];omega
 go_upto_region 5 with(go_at_call_of 37 (Value.int IntKind.i64 10);refine(Fp g _ _ _ Ab AQ AQ AQ).mono ?_;rintro e w4 ⟨x,rfl,bh,a3,fF,aY⟩)
 have eu:Ac (λb=>Fr Q w.heap.size w.heap.size b/\b≠d) w3 w4:=Gi (Hl HQ AQ aY) (λb _ h=>h.1);have cZ:=AV (Bv I aY AQ);have aj:Hid (RowOf 6 (N9 (λb=>Fr Q w.heap.size w.heap.size b/\b≠d) w4) xs l):=aL.imp λ_ _ _ h=>h.keep eu
 have iJ:=D5 cO aY;have s4:=aY.size;clear I aL bK cO aY eu;by_cases aG:x=0
 ·subst aG
  go_wp2_with (first | (go_at_call 68;refine(Jb g _ _ Ab AQ).mono ?_;rintro e S ⟨s,ev,q,rfl,bQ,dG,fJ,nR,ax,H⟩;obtain⟨z,y,rfl,_,_⟩:=id dG) | (go_at_call 40;refine(Pg g _ _ Ab AQ).mono ?_;rintro e A ⟨F,fv,D,rfl,xE,zA,ve,bN,ax,aC⟩;obtain⟨Y,Z,rfl,_,_⟩:=id zA))
  have s5:=H.size;have s6:=aC.size;have kc:∀{u v:World},u.grownBy v (some g)->Ac (λb=>Fr Q w.heap.size w.heap.size b/\b≠d) u v:=λh=>Gi (Hl HQ AQ h) (λb _ h=>h.1)
  have ka:∀(u:World) (o:Obj),Ac (λb=>Fr Q w.heap.size w.heap.size b/\b≠d) u (u.alloc o):=λu o=>Ac.of_below (Aa _ _)
  have aQ:∀b,(λb=>Fr Q w.heap.size w.heap.size b/\b≠d) b->(FrO Q w.heap.size w.heap.size (AE (some (AK d 0)) l.length W)) b:=λb f=>⟨f.1,λe=>f.2 yBj⟩
  have bi:=((Ew dG).mono (λb _ f=>⟨Or.inr AQ,AQ⟩)).keep (kc aC);have a6:Bi (λb=>Fr Q w.heap.size w.heap.size b/\b≠d) A (AE Y D.length Z) D:=(Ew zA).mono (λb _ f=>⟨Or.inr AQ,AQ⟩);have ar:Dq (λb=>Fr Q w.heap.size w.heap.size b/\b≠d) ((A.alloc (.cells #[AB F,AE Y D.length Z] 51)).alloc (.cells #[AB 1,AB s,AE z q.length y,AG,AE (some (AL A 0)) 1 1,AG] 62)) (AE (some (AL A 0)) 1 1) [⟨F,D⟩]:=(Yk (b:=A.heap.size) (ns:=[⟨F,D⟩]) rfl (RowOf.one (cs:=[AB F,AE Y D.length Z]) rfl ⟨_,rfl,a6⟩) ⟨Or.inr AQ,AQ⟩ AU).keep (ka _ _);have a9:N9 (FrO Q w.heap.size w.heap.size (AE (some (AK d 0)) l.length W)) ((A.alloc (.cells #[AB F,AE Y D.length Z] 51)).alloc (.cells #[AB 1,AB s,AE z q.length y,AG,AE (some (AL A 0)) 1 1,AG] 62)) [AB 1,AB s,AE z q.length y,AG,AE (some (AL A 0)) 1 1,AG] ⟨⟨1,⟨s,q⟩,[]⟩,[⟨F,D⟩],[]⟩:=N9.mono (Q:=(λb=>Fr Q w.heap.size w.heap.size b/\b≠d)) ⟨_,_,_,_,rfl,(bi.keep (ka _ _)).keep (ka _ _),Jr _ _,ar,Qr _ _⟩ (λb _=>aQ b);have bg:Jj ⟨⟨1,⟨s,q⟩,[]⟩,[⟨F,D⟩],[]⟩/\Gs ⟨⟨1,⟨s,q⟩,[]⟩,[⟨F,D⟩],[]⟩<=20:=by
   refine⟨(G5 _ _ _).2 ⟨Ht AY bQ fJ AQ,λc hc=>?_,λ_ h=>BE⟩,?_⟩
   ·rw[List.mem_singleton.1 hc];exact⟨xE,ve,by show D.length<=100000;omega⟩
   ·rw[Fv,E5]
    simp[Gx,Pv];omega
  have lu:=AV bg;obtain⟨B,hB⟩:=AA (A.heap.size+1)
  have ac:∃(L:List Stil.B8) (R:List Value),((A.alloc (.cells #[AB F,AE Y D.length Z] 51)).alloc (.cells #[AB 1,AB s,AE z q.length y,AG,AE (some (AL A 0)) 1 1,AG] 62)).ownsRow w.heap.size 62 6 (AE (some (AK d 0)) l.length W) L.length R/\RowOf 6 (N9 (FrO Q w.heap.size w.heap.size (AE (some (AK d 0)) l.length W)) ((A.alloc (.cells #[AB F,AE Y D.length Z] 51)).alloc (.cells #[AB 1,AB s,AE z q.length y,AG,AE (some (AL A 0)) 1 1,AG] 62))) R L/\N9 (FrO Q w.heap.size w.heap.size (AE (some (AK d 0)) l.length W)) ((A.alloc (.cells #[AB F,AE Y D.length Z] 51)).alloc (.cells #[AB 1,AB s,AE z q.length y,AG,AE (some (AL A 0)) 1 1,AG] 62)) [AB 1,AB s,AE z q.length y,AG,AE (some (AL A 0)) 1 1,AG] ⟨⟨1,⟨s,q⟩,[]⟩,[⟨F,D⟩],[]⟩/\Lr ((A.alloc (.cells #[AB F,AE Y D.length Z] 51)).alloc (.cells #[AB 1,AB s,AE z q.length y,AG,AE (some (AL A 0)) 1 1,AG] 62)) B 1 s (AE z q.length y) AG (AE (some (AL A 0)) 1 1) AG/\(Value.slice (some (AK d 0)) l.length W).ownBlock≠some B/\(∀a∈L,Jj a/\Gs a<=N+2000)/\L.length<=K+41/\Ig ((A.alloc (.cells #[AB F,AE Y D.length Z] 51)).alloc (.cells #[AB 1,AB s,AE z q.length y,AG,AE (some (AL A 0)) 1 1,AG] 62)) g (P+200+L.length)/\w.grownBy ((A.alloc (.cells #[AB F,AE Y D.length Z] 51)).alloc (.cells #[AB 1,AB s,AE z q.length y,AG,AE (some (AL A 0)) 1 1,AG] 62)) (some g):=by
   refine⟨l,xs,((Bv (Bv cZ H AQ) aC AQ).alloc _).alloc _,aj.imp λ_ _ _ h=>((((h.keep (kc H)).keep (kc aC)).keep (ka _ _)).keep (ka _ _)).mono (λb _=>aQ b),a9,?_,?_,λa ha=>⟨(U a ha).1,by have:=(U a ha).2;omega⟩,AQ,?_,?_⟩
   ·rw[hB]
    refine⟨AU,?_,?_,?_,?_,?_,?_,?_,?_,?_,?_,?_,?_⟩<;>simp[go_sem]
   ·intro e
    have:d=B:=by simpa[Value.ownBlock] using e
    omega
   ·exact F6 (Bl (Bl ax _) _) AQ
   ·exact Ea (Ea (D5 (D5 iJ H) aC) _) _
  rw[<-hB];have bI:w.heap.size<=B:=AQ
  clear bg a9 ar a6 bi aQ ka kc dG zA fJ ve cZ aj H aC iJ fF hB;go_loopw [5] (λo J=>∃(L:List Stil.B8) (R:List Value),J.ownsRow w.heap.size 62 6 o L.length R/\RowOf 6 (N9 (FrO Q w.heap.size w.heap.size o) J) R L/\N9 (FrO Q w.heap.size w.heap.size o) J [AB 1,AB s,AE z q.length y,AG,AE (some (AL A 0)) 1 1,AG] ⟨⟨1,⟨s,q⟩,[]⟩,[⟨F,D⟩],[]⟩/\Lr J B 1 s (AE z q.length y) AG (AE (some (AL A 0)) 1 1) AG/\o.ownBlock≠some B/\(∀a∈L,Jj a/\Gs a<=N+2000)/\L.length<=K+41/\Ig J g (P+200+L.length)/\w.grownBy J (some g)) (λo _=>41 - lenV o)
  case atStart=>exact ac
  case round=>
   clear ac;obtain⟨L,R,aa,ae,bk,ag,au,a5,bP,sN,pV⟩:=hrel;obtain⟨o1,c2,ho,-⟩:=Hg aa;subst ho;have I:=AV aa;have ab:=AV ae;have rf:=AV bk;have bY:=AV ag;have iW:=AV au;have vz:=AV a5;have bO:=ag.1;have bf:Hid (∀b,(FrO Q w.heap.size w.heap.size (AE o1 L.length c2)) b->some g≠some b):=λb f e=>by
    simp only[CZ] at e;rcases f.1 with h | h
    ·have:=HQ b h.1;omega
    ·omega
   clear aa ae bk ag au a5
   go_wp2_with (first | (go_at_call_of 37 (Value.int IntKind.i64 2);refine(Fp g _ _ _ sN AQ AQ AQ).mono ?_;rintro e t ⟨az,rfl,af,ap,lT,C⟩;have kS:=AV (bY.grownO C BA);obtain⟨bC,q0,q1,q2,q3,q4,q5,p0,p1,p2,p3,p4,p5⟩:=kS.out) | (at_builtin;refine wpList_append_own_at _ rfl _ _ 23 rfl w.heap.size 62 ia (.agg #[AB 0,AB 0,AG,AG,AG,AG]) 6 112 underlying23 aV iI iH iG rfl AY _ _ _ rfl ((Bv I C AQ).alloc _) _ _ _ [AB 1,AB s,AE z q.length y,AG,AE (some (AL A 0)) 1 1,AG] rfl rfl BP yAh A6 AQ (by simp only[World.size_alloc];have:=C.size;omega) ?_;intro v' w8 dU G dh mJ;clear q0 q1 q2 q3 q4 q5 p0 p1 p2 p3 p4 p5))
   ·have kg:=Ac.of_grown C (λb f e=>bf b f e)
    have kk:Ac (FrO Q w.heap.size w.heap.size (AE o1 L.length c2)) wr (t.alloc (.cells #[AB 1,AB s,AE z q.length y,AG,AE (some (AL A 0)) 1 1,AG] 62)):=kg.trans (Ac.of_below (Aa _ _));have s7:=C.size;have e6:L.length+1=(L++[(⟨⟨1,⟨s,q⟩,[]⟩,[⟨F,D⟩],[]⟩:Stil.B8)]).length:=AU
    have bw:=eJ (rf.keep kk) G mJ;have bm:RowOf 6 (N9 (FrO Q w.heap.size w.heap.size v') w8) (R++[AB 1,AB s,AE z q.length y,AG,AE (some (AL A 0)) 1 1,AG]) (L++[⟨⟨1,⟨s,q⟩,[]⟩,[⟨F,D⟩],[]⟩]):=((ab.imp λ_ _ _ h=>h.keep kk).append (RowOf.one rfl (rf.keep kk))).imp λ_ _ _ h=>eJ h G mJ
    refine⟨⟨L++[⟨⟨1,⟨s,q⟩,[]⟩,[⟨F,D⟩],[]⟩],_,by rw[e6] at dU;exact dU,bm,bw,(kS.alloc _).grownO G (λe=>iW e),eG iW mJ Bm,?_,by rw[<-e6];omega,?_,?_⟩,?_⟩
    ·intro a ha
     rcases List.mem_append.1 ha with h | h
     ·exact vz a h
     ·rw[List.mem_singleton.1 h];exact⟨lu.1,by have:=lu.2;omega⟩
    ·exact F6 (Fj (Bl lT _) G (λk O=>by have:=(I.lt _ O).1;omega)) (by rw[<-e6];omega)
    ·exact J5 (Ea (D5 pV C) _) G (λk O=>(I.lt _ O).1)
    ·obtain⟨o3,c3,bo,-⟩:=Hg dU
     rw[bo];show 41 - (L.length+1)<41 - L.length
     omega
   ·have kg:=Ac.of_grown C (λb f e=>bf b f e)
    go_ret;exact⟨L,_,rfl,Fq (Bv I C AQ) (ab.imp λ_ _ _ h=>(h.keep kg).mono λb _ f=>f.1) (λb f=>Or.inr (I.lt _ f).1),vz.out,AQ,F6 lT AQ,D5 pV C⟩
 by_cases a7:x=1
 ·subst a7
  clear bh a3 aG;go_upto_region 12 with(go_at_call_of 37 (l.length:Nat);refine(Fp g _ _ _ fF AQ AQ AQ).mono ?_;rintro e S ⟨az,rfl,af,ap,gG,H⟩;obtain⟨j,rfl⟩:=FP af;have hj:j<l.length:=AQ;clear af ap)
  have aw:Ac (λb=>Fr Q w.heap.size w.heap.size b/\b≠d) w4 S:=Gi (Hl HQ AQ H) (λb _ h=>h.1);have mW:=AV (Bv cZ H AQ);have lH:Hid (RowOf 6 (N9 (λb=>Fr Q w.heap.size w.heap.size b/\b≠d) S) xs l):=aj.imp λ_ _ _ h=>h.keep aw
  have sW:=D5 iJ H;have s5:=H.size;have hts:Bz l<=50000000:=by
   have h1:=PG U.out;have h2:l.length*(2+2*N)<=1000*(2+2*N):=FD _ AQ;omega
  have xN:=AV (OC l _ S (Fq (P:=λ_=>True) mW (lH.imp λ_ _ _ h=>h.mono λ_ _ _=>trivial) (λ_ _=>trivial)).at AQ (PI U AQ));obtain⟨aF,hS⟩:=AA (Bz l)
  rw[<-hS] at xN hts;clear cZ aj fF iJ H aw hS;go_upto_region 13 with(first | (go_at_call 30;refine xN.mono ?_;rintro e A ⟨rfl,an⟩) | (go_at_call_of 37 (Value.int IntKind.i64 2);refine(Fp g _ _ _ (Fj gG (grown_below an none) (λk O=>by cases O)) AQ AQ AQ).mono ?_;rintro e t ⟨az,rfl,af,ap,lT,C⟩))
  have s6:=an.size;have s7:=C.size;have xW:=AV (Bv (PC mW (grown_below an none) (λ_ _ h=>by cases h)) C AQ);have oN:Ac (λb=>Fr Q w.heap.size w.heap.size b/\b≠d) S t:=(Ac.of_below an).trans (Gi (Hl HQ AQ C) (λb _ h=>h.1));have aM:Hid (RowOf 6 (N9 (λb=>(Fr Q w.heap.size w.heap.size b/\b≠d)/\b<t.heap.size) t) xs l):=lH.imp λ_ _ _ h=>(h.keep oN).mono λb f h=>⟨h,f⟩
  have gp:=D5 (D5 sW (grown_below an _)) C;have bG:d<t.heap.size:=AQ
  clear mW lH sW oN xN C an gG;obtain⟨av,nv,cv,kv,r0,r1,r2,r3,r4,r5,al,aE,aD,ai,ay⟩:=LV xW aM hj;clear al aE aD ay r0 r1 r2 r3 r5;have T:=AV (U _ (CN hj));obtain⟨X,hX⟩:=AA (l[j])
  rw[<-hX] at T ai;have HX:=AV hX;have rD:=AV ai;obtain⟨u3,t3,rfl,-⟩:=ai;have bV:X.coils.length<=20000:=by have:=(PZ X []).1;have:=T.2;omega
  clear hX;go_upto_region 14 with(at_builtin;refine P6 rfl _ _ rfl (λb=>(Fr Q w.heap.size w.heap.size b/\b≠d)/\b<t.heap.size) t X.coils (AE u3 X.coils.length t3) rfl rfl rfl rD AQ ?_;intro b2 jw w8 aS dU uX bF bS G;have aU:=AV dU;have a8:Hid (RowOf 2 (Nw (λb=>(λb=>(Fr Q w.heap.size w.heap.size b/\b≠d)/\b<t.heap.size) b/\b<t.heap.size) w8) aS X.coils):=uX;have zI:Hid ((t.alloc (.cells #[] 51)).grownBy w8 (some t.heap.size)):=G;clear dU uX G)
  clear r4;have s8:=zI.size;rw[World.size_alloc] at s8;have bu:Ig w8 g (P+3):=F6 (Fj (Bl lT _) zI BH) AQ
  go_wp2_with (go_at_call 40;refine(Pg g _ _ Ab AQ).mono ?_;rintro e V ⟨s,ev,q,rfl,bQ,dG,fJ,nR,ax,nX⟩;obtain⟨z,y,rfl,_,_⟩:=id dG)
  have s9:=nX.size;obtain⟨B,hB⟩:=AA V.heap.size
  have a2:Hid (X0 ⟨s,q⟩/\q.length<=3):=⟨⟨bQ,fJ,by show q.length<=100000;omega⟩,nR⟩
  have aZ:Ac (λb=>(Fr Q w.heap.size w.heap.size b/\b≠d)/\b<t.heap.size) t w8:=(Ac.of_below (Aa _ _)).trans (Ac.of_grown zI (λb f e=>by simp only[CZ] at e;have:=f.2;omega));have zu:Ac (λb=>(Fr Q w.heap.size w.heap.size b/\b≠d)/\b<t.heap.size) w8 (V.alloc (.cells #[AB s,AE z q.length y] 51)):=(Gi (Hl HQ AQ nX) (λb _ h=>h.1.1)).trans (Ac.of_below (Aa _ _));have ac:∃(E:List Stil.Elem) (R:List Value) (m:Nat),(Value.int .i64 0)=AB m/\m<=401/\(V.alloc (.cells #[AB s,AE z q.length y] 51)).ownsRow t.heap.size 51 2 (Value.slice (some (AK b2 0)) X.coils.length jw) E.length R/\RowOf 2 (Nw (FZ (λb=>Fr Q w.heap.size w.heap.size b/\b≠d) (Value.slice (some (AK b2 0)) X.coils.length jw)) (V.alloc (.cells #[AB s,AE z q.length y] 51))) R E/\Nw (FZ (λb=>Fr Q w.heap.size w.heap.size b/\b≠d) (Value.slice (some (AK b2 0)) X.coils.length jw)) (V.alloc (.cells #[AB s,AE z q.length y] 51)) [AB s,AE z q.length y] ⟨s,q⟩/\Xz (V.alloc (.cells #[AB s,AE z q.length y] 51)) B s (AE z q.length y)/\(Value.slice (some (AK b2 0)) X.coils.length jw).ownBlock≠some B/\(∀x∈E,X0 x)/\Gx E<=Gx X.coils+4*m/\(V.alloc (.cells #[AB s,AE z q.length y] 51)).ownsRow w.heap.size 62 6 (AE (some (AK d 0)) l.length W) l.length xs/\RowOf 6 (N9 (λb=>(Fr Q w.heap.size w.heap.size b/\b≠d)/\b<t.heap.size) (V.alloc (.cells #[AB s,AE z q.length y] 51))) xs l/\Ig (V.alloc (.cells #[AB s,AE z q.length y] 51)) g (P+200)/\w.grownBy (V.alloc (.cells #[AB s,AE z q.length y] 51)) (some g)/\t.heap.size<=(V.alloc (.cells #[AB s,AE z q.length y] 51)).heap.size:=by
   refine⟨X.coils,aS,0,rfl,AQ,(Bv aU nX AQ).alloc _,a8.imp λ_ _ _ h=>((h.mono λb _ f=>f.1).keep zu).mono λb _ f=>⟨f.1,λe=>?_⟩,⟨_,rfl,((Ew dG).mono (P:=FZ (λb=>Fr Q w.heap.size w.heap.size b/\b≠d) (Value.slice (some (AK b2 0)) X.coils.length jw)) λb _ f=>⟨⟨Or.inr AQ,AQ⟩,λe=>?_⟩).keep (Ac.of_below (Aa _ _))⟩,?_,?_,T.1.parts.2.1,AQ,?_,aM.imp λ_ _ _ h=>(h.keep aZ).keep zu,F6 (Bl ax _) AQ,?_,by rw[World.size_alloc];omega⟩
   ·have:b2=b:=by simpa[Value.ownBlock] using e
    have:=f.2
    omega
   ·have:b2=b:=by simpa[Value.ownBlock] using e
    omega
   ·rw[hB]
    refine⟨AU,?_,?_,?_,?_⟩<;>simp[go_sem]
   ·intro e
    have:b2=B:=by simpa[Value.ownBlock] using e
    omega
   ·refine(Bv (PC (xW.alloc _) zI (λk O=>?_)) nX AQ).alloc _
    have:d=k:=by simpa[Value.ownBlock] using O
    simp only[ne_eq,CZ];omega
   ·exact Ea (D5 (J5 (Ea gp _) zI BH) nX) _
  rw[<-hB];obtain⟨ie,bq,lX,lW,lV⟩:=info_parts LQ;clear aZ zu aU a8 zI xW aM rD nX dG fJ bu gp lT hB;go_loopw [9,11] (λc i J=>∃(E:List Stil.Elem) (R:List Value) (m:Nat),i=AB m/\m<=401/\J.ownsRow t.heap.size 51 2 c E.length R/\RowOf 2 (Nw (FZ (λb=>Fr Q w.heap.size w.heap.size b/\b≠d) c) J) R E/\Nw (FZ (λb=>Fr Q w.heap.size w.heap.size b/\b≠d) c) J [AB s,AE z q.length y] ⟨s,q⟩/\Xz J B s (AE z q.length y)/\c.ownBlock≠some B/\(∀x∈E,X0 x)/\Gx E<=Gx X.coils+4*m/\J.ownsRow w.heap.size 62 6 (AE (some (AK d 0)) l.length W) l.length xs/\RowOf 6 (N9 (λb=>(Fr Q w.heap.size w.heap.size b/\b≠d)/\b<t.heap.size) J) xs l/\Ig J g (P+200)/\w.grownBy J (some g)/\t.heap.size<=J.heap.size) (λ_ i _=>401 - (intOf i).toNat)
  case atStart=>exact ac
  case round=>
   clear ac;obtain⟨E,R,m,rfl,hm,aa,ae,ar,ag,au,aX,bz,ba,bj,sN,pV,b1⟩:=hrel;obtain⟨o1,c2,ho,-⟩:=Hg aa;subst ho;have I:=AV aa;have ab:=AV ae;have bc:=AV ar;have bY:=AV ag;have iW:=AV au;have wu:=AV aX;have aO:=AV ba;have aJ:=AV bj;have bp:Gx E=E.length+(E.map Pv).sum:=rfl;have b7:=(PZ X []).2.1;have bU:=T.2;have bR:E.length<=30000:=AQ
   have b8:=ag.1;have bv:∀k,(Value.slice o1 E.length c2).ownBlock=some k->d≠k:=λk O=>by have:=(I.lt k O).1;omega
   clear aa ae ar ag au aX ba bj bp;by_cases b6:(m:Int)<400 - aF+az
   ·obtain⟨bC,q0,q1,p0,p1⟩:=bY.out
    go_wp2_with (at_builtin;refine wpList_append_own_at _ rfl _ _ 60 rfl t.heap.size 51 ie (.agg #[AB 0,AG]) 2 32 underlying60 bq lX lW lV rfl AY _ _ _ rfl (I.alloc _) _ _ _ [AB s,AE z q.length y] rfl rfl BP yCd A6 AQ Bw ?_;intro v' bM dU G dh mJ)
    have ka:Ac (FZ (λb=>Fr Q w.heap.size w.heap.size b/\b≠d) (Value.slice o1 E.length c2)) wr (wr.alloc (.cells #[AB s,AE z q.length y] 51)):=Ac.of_below (Aa _ _);have e6:E.length+1=(E++[(⟨s,q⟩:Stil.Elem)]).length:=AU
    have br:=G.size;rw[World.size_alloc] at br;refine⟨⟨E++[⟨s,q⟩],_,m+1,by go_num,AQ,by rw[e6] at dU;exact dU,((ab.imp λ_ _ _ h=>h.keep ka).append (RowOf.one rfl (bc.keep ka))).imp λ_ _ _ h=>ZK h G mJ,ZK (bc.keep ka) G mJ,TN (TN bY (grown_below (Aa wr _) none) AU) G (λe=>iW e),eG iW mJ Bm,?_,?_,PC (aO.alloc _) G (λk O e=>?_),aJ.imp λ_ _ _ h=>(h.keep (Ac.of_below (Aa _ _))).keep (Ac.of_grown G (λb f e=>?_)),Fj (Bl sN _) G (λk O=>by have:=(I.lt _ O).1;omega),J5 (Ea pV _) G (λk O=>by have:=(I.lt _ O).1;omega),AQ⟩,by simp[intOf];omega⟩
    ·intro x hx
     rcases List.mem_append.1 hx with h | h
     ·exact wu x h
     ·rw[List.mem_singleton.1 h];exact a2.1
    ·have h3:=a2.2
     simp only[Gx,CM,CU,GV,CH,CO,CP,C3,DW,FH,Pv] at bz ⊢;omega
    ·have:d=k:=by simpa[Value.ownBlock] using O
     exact bv k e this
    ·have h1:=(I.lt b e).1
     have h2:=f.2;omega
   ·obtain⟨av,nv,cv,kv,r0,r1,r2,r3,r4,r5,al,-,-,-,-⟩:=LV aO aJ hj
    have f4:=al (j*6+4);clear r0 r1 r2 r3 r5 al;have aR:=Ju I (ab.imp λ_ _ _ h=>h.mono λb _ f=>f.1) (λb f=>by have h1:=(I.lt b f).1;exact⟨Or.inr AQ,AQ⟩);obtain⟨ys,ao,aB⟩:=ff aO (aJ.imp λ_ _ _ h=>h.mono λb _ f=>f.1) hj (λh=>h.2 rfl) aR;have bs:Hid (Em (Fr Q w.heap.size w.heap.size) (wr.setCell (AK d (j*6+4)) (Value.slice o1 E.length c2)) (AE (some (AK d 0)) l.length W) (l.set j ⟨l[j].net,E,l[j].kids⟩)):=by
     have e:l.length=(l.set j (⟨l[j].net,E,l[j].kids⟩:Stil.B8)).length:=AU
     rw[e] at ao
     have h:=Fq (P:=(Fr Q w.heap.size w.heap.size)) ao (aB.imp λ_ _ _ h=>h.mono λb _ f=>f.1) (λb f=>by
      have:d=b:=by simpa[Value.ownBlock] using f
      exact Or.inr AQ)
     rw[<-e] at h;exact h
    clear ao aB aR
    go_wp2
    go_ret;refine⟨_,_,rfl,bs.out,?_,by rw[JJ];omega,F6 (J8 sN AQ _) AQ,Lj dX pV _⟩;intro a ha;rcases MY ha with h | rfl
    ·exact⟨(U a h).1,by have:=(U a h).2;omega⟩
    ·rw[<-HX.out]
     refine⟨(G5 _ _ _).2 ⟨T.1.parts.1,wu.out,T.1.parts.2.2⟩,?_⟩;have:=(PZ X E).2.2
     omega
 clear bh a3;have bX:(x==0)=false:=by rw[CS];exact aG
 have b0:(x==1)=false:=by rw[CS];exact a7
 go_upto_region 22 with(go_at_call_of 37 (l.length:Nat);refine(Fp g _ _ _ fF AQ AQ AQ).mono ?_;rintro e S ⟨az,rfl,af,ap,gG,H⟩;obtain⟨j,rfl⟩:=FP af;have hj:j<l.length:=AQ;clear af ap)
 have aw:Ac (λb=>Fr Q w.heap.size w.heap.size b/\b≠d) w4 S:=Gi (Hl HQ AQ H) (λb _ h=>h.1);have mW:=AV (Bv cZ H AQ);have lH:Hid (RowOf 6 (N9 (λb=>Fr Q w.heap.size w.heap.size b/\b≠d) S) xs l):=aj.imp λ_ _ _ h=>h.keep aw
 have sW:=D5 iJ H;have s5:=H.size;have ak:d<S.heap.size:=AQ
 clear cZ aj fF iJ H aw;obtain⟨av,nv,cv,kv,r0,r1,r2,r3,r4,r5,al,aE,aD,ai,ay⟩:=LV mW lH hj;clear al;have T:=AV (U _ (CN hj));have HI:=
  AV (sE _ _ g (P+1+1) S av nv cv kv (λb f=>by rcases f.1 with h | h;exact HQ b h.1;omega) aE aD ai ay T.1 (by have:=T.2;omega) gG (by have:=T.2;omega))
 obtain⟨X,hX⟩:=AA (l[j])
 rw[<-hX] at HI T r0 r1;obtain⟨u1,t1,rfl,-⟩:=aE;obtain⟨u2,t2,rfl,-⟩:=aD;obtain⟨u3,t3,rfl,-⟩:=ai;obtain⟨u4,t4,rfl,-⟩:=ay;clear hX gG;go_upto_region 23 with(go_at_call 111;refine HI.mono ?_;rintro e t ⟨M,vk,bW,bL,zo,rfl,gV,kF,pW,kH,rU,rQ,lT,C⟩;have uT:=AV gV;have jY:=AV kF;have x9:=AV pW;have bB:=AV kH;have l7:=AV rU;have dV:=Bv mW C AQ;obtain⟨d0,d1,d2,d3,d4,d5,f0,f1,f2,f3,f4,f5⟩:=(⟨dV.frozenAt (j*6),dV.frozenAt (j*6+1),dV.frozenAt (j*6+2),dV.frozenAt (j*6+3),dV.frozenAt (j*6+4),dV.frozenAt (j*6+5),(Dn C ak AQ).trans r0,(Dn C ak AQ).trans r1,(Dn C ak AQ).trans r2,(Dn C ak AQ).trans r3,(Dn C ak AQ).trans r4,(Dn C ak AQ).trans r5⟩:t.frozen? (AK d (j*6))=false/\t.frozen? (AK d (j*6+1))=false/\t.frozen? (AK d (j*6+2))=false/\t.frozen? (AK d (j*6+3))=false/\t.frozen? (AK d (j*6+4))=false/\t.frozen? (AK d (j*6+5))=false/\t.cell? (AK d (j*6))=_/\t.cell? (AK d (j*6+1))=_/\t.cell? (AK d (j*6+2))=_/\t.cell? (AK d (j*6+3))=_/\t.cell? (AK d (j*6+4))=_/\t.cell? (AK d (j*6+5))=_);obtain⟨y1,z1,rfl,-⟩:=gV;obtain⟨y2,z2,rfl,-⟩:=kF;obtain⟨y3,z3,rfl,-⟩:=pW;obtain⟨y4,z4,rfl,-⟩:=kH;clear dV rU r0 r1 r2 r3 r4 r5)
 obtain⟨ah,hW⟩:=AA ((((((t.setCell (AK d (j*6)) (AB M.net.kind)).setCell (AK d (j*6+1)) (AB M.net.one.op)).setCell (AK d (j*6+2)) (AE y1 M.net.one.args.length z1)).setCell (AK d (j*6+3)) (AE y2 M.net.kids.length z2)).setCell (AK d (j*6+4)) (AE y3 M.coils.length z3)).setCell (AK d (j*6+5)) (AE y4 M.kids.length z4))
 rw[<-hW];have s7:=C.size;have aA:∀b,b<t.heap.size->Fr (λb=>Fr Q w.heap.size w.heap.size b/\b≠d) S.heap.size S.heap.size b->Fr Q w.heap.size w.heap.size b/\b≠d:=λb _ h=>by
  rcases h with h | h
  ·exact h.1
  ·exact⟨Or.inr AQ,AQ⟩
 have oN:Ac (λb=>Fr Q w.heap.size w.heap.size b/\b≠d) S t:=Gi (Hl HQ AQ C) (λb _ h=>h.1);have ac:=Rm (Bv mW C AQ) (lH.imp λ_ _ _ h=>h.keep oN) hj (λh=>h.2 rfl) (uT.mono aA) (jY.mono aA) (x9.mono aA) (bB.mono aA);have aT:ah=set6 t d (j*6) (AB M.net.kind) (AB M.net.one.op) (AE y1 M.net.one.args.length z1) (AE y2 M.net.kids.length z2) (AE y3 M.coils.length z3) (AE y4 M.kids.length z4):=hW;rw[<-aT] at ac;obtain⟨ys,ao,aB⟩:=ac;have bn:Ig ah g (P+300000):=by
  have:=T.2
  rw[hW];exact F6 (J8 (J8 (J8 (J8 (J8 (J8 (lT) AQ _) AQ _) AQ _) AQ _) AQ _) AQ _) AQ
 have bA:w.grownBy ah (some g):=by
  rw[hW];exact Lj dX (Lj dX (Lj dX (Lj dX (Lj dX (Lj dX (D5 sW C) _) _) _) _) _) _
 have bD:Em (Fr Q w.heap.size w.heap.size) ah (AE (some (AK d 0)) l.length W) (l.set j M):=by
  have e:l.length=(l.set j M).length:=AU
  rw[e] at ao ⊢
  exact Fq ao (aB.imp λ_ _ _ h=>h.mono λb _ f=>f.1) (λb f=>by
   have:d=b:=by simpa[Value.ownBlock] using f
   exact Or.inr AQ)
 clear hW aT
 go_wp2
 go_ret;refine⟨l.set j M,_,rfl,bD,?_,by rw[JJ];omega,bn,bA⟩;intro a ha;rcases MY ha with h | rfl
 ·exact⟨(U a h).1,by have:=(U a h).2;omega⟩
 ·exact⟨l7.out,by have:=T.2;omega⟩
