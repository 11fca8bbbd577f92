import Derived.Test.YtnpfcnolmkanfaaGreatDoorHb
import Derived.Test.YtnpfcnolmkanfaaGreatDoorHc
namespace Go.Proofs.YtnpfcnolmkanfaaGreatDoor
open Tryz
open Stil
open Go.RowKit Go.Sort Go.BigFrame
variable {base n:Nat}{cs xs:List Value}{r:Option Nat}{v v':Value}{w':World}
def Ayx (Q:Nat->Prop)(e:Ending)(w w':World)(g P N k:Nat):Prop:=∃(l:List Stil.Arm) (v:Value),e=.returned v/\Es (Fr Q w.heap.size w.heap.size) w' v l/\(∀a∈l,Jd a/\F5 a<=N)/\l.length<=k/\H5 w' g P/\w.grownBy w' (some g)
theorem Axo {Q:Nat->Prop}{m:Nat}{w:World}{a:Stil.Arm}(h:Ot (FrO Q n m v) w cs a)(hg:w.grownBy w' v.ownBlock)(f:v'.ownBlock=v.ownBlock\/v'.ownBlock=some w.heap.size):Ot (FrO Q n m v') w' cs a:=by
 have d:Ot (λb=>FrO Q n m v b/\FrO Q n m v' b) w cs a:=h.mono λb g c=>⟨c,c.1,λe=>by
  rcases f with h | h
  ·exact c.2 (h ▸ e)
  ·rw[h] at e
   simp only[A65] at e
   omega⟩
 exact(d.keep (Ez (FrO.keep hg) λb _ c=>c.1)).mono λb _ c=>c.2
theorem Awb {B:Nat}(h:v.ownBlock≠some B)(a:v'.ownBlock=v.ownBlock\/v'.ownBlock=some n)(b:B<n):v'.ownBlock≠some B:=by
 rcases a with e | e
 ·rw[e];exact h
 ·rw[e]
  intro e;simp only[A65] at e;omega
theorem Ad3 {w:World}{e:TypeId}{size:Nat}(h:w.ownsRow base e size v n xs)(hg:w.grownBy w' r)(hr:∀k,v.ownBlock=some k->r≠some k):w'.ownsRow base e size v n xs:=by
 refine⟨h.1,?_⟩;rcases h.2 with g | ⟨k,cap,cur,a,d,c,f⟩
 ·exact Or.inl g
 ·have b:v.ownBlock=some k:=by rw[a];rfl
  exact Or.inr ⟨k,cap,cur,a,d,by rw[hg.block k (h.lt k b).2 (λe=>hr k b e.symm)];exact c,f⟩
def Ofv (R:Nat->Prop)(v:Value)(b:Nat):Prop:=R b/\v.ownBlock≠some b
theorem Apk {R:Nat->Prop}{w:World}{a:Stil.Elem}(h:Ls (Ofv R v) w cs a)(hg:w.grownBy w' v.ownBlock)(g:v'.ownBlock=v.ownBlock\/v'.ownBlock=some w.heap.size):Ls (Ofv R v') w' cs a:=by
 have f:Ls (λb=>Ofv R v b/\Ofv R v' b) w cs a:=h.mono λb d c=>⟨c,c.1,λe=>by
  rcases g with h | h
  ·exact c.2 (h ▸ e)
  ·rw[h] at e
   simp only[A65] at e
   omega⟩
 exact(f.keep (Ez (Ac.of_grown (P:=Ofv R v) hg λ_ d=>d.2) λb _ c=>c.1)).mono λb _ c=>c.2
theorem Ack {w:World}{b:Nat}{op:Int}(h:Wj w b op v)(hg:w.grownBy w' r)(hr:r≠some b):Wj w' b op v:=by
 obtain⟨d,f⟩:=h;have e:=hg.block b d (λx=>hr x.symm);have c:∀o,w'.cell? ⟨b,o,none⟩=w.cell? ⟨b,o,none⟩:=λo=>by unfold World.cell?;rw[e]
 have a:∀o,w'.frozen? ⟨b,o,none⟩=w.frozen? ⟨b,o,none⟩:=λo=>by unfold World.frozen?;rw[e]
 refine⟨A51 d hg.size,?_⟩;rw[c,c,a,a];exact f
theorem Ayt {R:Nat->Prop}{w:World}{a cap k:Nat}{ns:List Stil.Arm}{E:List Stil.Elem}{c:Value}(h:w.ownsRow base 46 6 (.slice (some ⟨a,0,none⟩) n cap) n xs)(hr:RowOf 6 (Ot R w) xs ns)(e:k<ns.length)(q:¬R a)(i:Dk R w c E):
  ∃g,(w.setCell ⟨a,k*6+4,none⟩ c).ownsRow base 46 6 (.slice (some ⟨a,0,none⟩) n cap) n g/\RowOf 6 (Ot R (w.setCell ⟨a,k*6+4,none⟩ c)) g (ns.set k ⟨ns[k].net,E,ns[k].kids⟩):=by
 refine⟨_,(h.stored (k*6+4) _).1,?_⟩;have d:Ac R w (w.setCell ⟨a,k*6+4,none⟩ c):=Ac.set q _;obtain⟨u,s,y,m,l,o,x,A,t⟩:=hr.2 k e;have b:=Ago hr e l;have z:=hr.1;refine RowOf.set (hr.imp λ_ _ _ h=>h.keep d) e spz ⟨u,s,c,m,?_,o.keep d,x.keep d,i.keep d,t.keep d⟩ ?_
 ·apply A8t
  intro j;rw[A71];by_cases f:j<6
  ·rw[if_pos f,A72]
   have:j=0\/j=1\/j=2\/j=3\/j=4\/j=5:=omz
   rcases this with rfl | rfl | rfl | rfl | rfl | rfl
   ·rw[A6c omz];exact b 0 _ rfl
   ·rw[A6c omz];exact b 1 _ rfl
   ·rw[A6c omz];exact b 2 _ rfl
   ·rw[A6c omz];exact b 3 _ rfl
   ·rw[A6r omz];rfl
   ·rw[A6c omz];exact b 5 _ rfl
  ·rw[if_neg f,A79 yAd]
 ·intro j f
  rw[A6c omz]
theorem Aiz (X:Stil.Arm)(E:List Stil.Elem):X.coils.length<=F5 X/\Fq X.coils<=F5 X/\F5 ⟨X.net,E,X.kids⟩+Fq X.coils=F5 X+Fq E:=by
 obtain⟨n,cs,a⟩:=X;have b:=Fe n cs a;have d:=Fe n E a;have c:Fq cs=cs.length+(cs.map N7).sum:=rfl;show cs.length<=F5 ⟨n,cs,a⟩/\Fq cs<=F5 ⟨n,cs,a⟩/\F5 ⟨n,E,a⟩+Fq cs=F5 ⟨n,cs,a⟩+Fq E
 omega
set_option maxHeartbeats 4000000 in
set_option maxRecDepth 100000 in
theorem Avi (Q:Nat->Prop)(g P N K:Nat)(w:World)(v:Value)(l:List Stil.Arm)(hQ:∀b,Q b->g<b)(hv:Es Q w v l)(ht:∀a∈l,Jd a/\F5 a<=N)(hl:l.length<=K)(hK:K<=1000)(hN:N<=20000)(hr:H5 w g P)(hP:P<=2000000):
  Calls prog 24 #[.pointer (some ⟨g,0,none⟩),v] w λe w'=>Ayx Q e w w' g (P+300000) (N+2000) (K+100):=by
 have hg:=Ug hr;obtain⟨ia,a6,gJ,gI,gG⟩:=info_parts Aap;have HV:=hid hv;have U:=hid ht;have HQ:=hid hQ;obtain⟨a1,c1,rfl,-⟩:=hv;clear ht hQ;go_enter func24,ntmps24;go_upto_region 2 with(at_builtin;refine Qn rfl _ _ rfl Q w l (.slice a1 l.length c1) rfl rfl rfl HV omz ?_;intro d Y w3 xs aa ab dS fJ aJ;have I:=hid aa;have ae:=hid ab;have dJ:Hid ((w.alloc (.cells #[] 46)).grownBy w3 (some w.heap.size)):=aJ;clear aa ab aJ)
 have s3:=dJ.size;rw[World.size_alloc] at s3;have aG:Hid (RowOf 6 (Ot (λb=>Fr Q w.heap.size w.heap.size b/\b≠d) w3) xs l):=ae.imp λ_ _ _ h=>h.mono λb _ f=>⟨Or.inl f,by have:=f.2;omega⟩
 have bK:=Et (Cb hr _) dJ yAc;have bU:w.grownBy w3 (some g):=Jk (D5 (Ny _ _) _) dJ yAc;clear ae dJ HV hr;by_cases bF:l.length=0
 ·have hz:((l.length:Int)==0)=true:=by rw[A8h];omega
  go_wp2_with (at_builtin;refine wpList_append_own_at _ rfl _ _ 23 rfl w.heap.size 46 ia (.agg #[.int .i64 0, .int .i64 0, .slice none 0 0, .slice none 0 0, .slice none 0 0, .slice none 0 0]) 6 112 underlying23 a6 gJ gI gG rfl dcz _ _ _ rfl (I.alloc _) _ _ _ [.int .i64 0, .int .i64 0, .slice none 0 0, .slice none 0 0, .slice none 0 0, .slice none 0 0] rfl rfl yBb yAf yAe omz yBd ?_;intro v' A aE aC bQ aV)
  have bH:(w3.alloc (.cells #[.int .i64 0, .int .i64 0, .slice none 0 0, .slice none 0 0, .slice none 0 0, .slice none 0 0] 46)).grownBy A (some d):=aC;have nU:=Afc (R':=(Fr Q w.heap.size w.heap.size)) (v:=.slice (some ⟨d,0,none⟩) l.length Y) (n:=⟨⟨0,⟨0,[]⟩,[]⟩,[],[]⟩) (aG.imp λ_ _ _ h=>h.keep (Ac.of_below (Aa w3 (.cells #[.int .i64 0, .int .i64 0, .slice none 0 0, .slice none 0 0, .slice none 0 0, .slice none 0 0] 46)))) ⟨_,_,_,_,rfl,Qz _ _,I5 _ _,Xi _ _,Q7 _ _⟩ rfl bH (λb f e=>f.2 yBg) (λb f=>f.1);have e6:l.length+1=(l++[(⟨⟨0,⟨0,[]⟩,[]⟩,[],[]⟩:Stil.Arm)]).length:=spz
  go_ret;refine⟨l++[⟨⟨0,⟨0,[]⟩,[]⟩,[],[]⟩],_,rfl,Fb (by rw[e6] at aE;exact aE) nU (λb f=>Or.inr (aE.lt _ f).1),?_,by rw[<-e6];omega,Fg (Et (Cb bK _) bH yAc) omz,Jk (D5 bU _) bH yAc⟩;intro a ha;rcases List.mem_append.1 ha with h | h
  ·exact⟨(U a h).1,by have:=(U a h).2;omega⟩
  ·rw[List.mem_singleton.1 h]
   refine⟨(Gy _ _ _).2 ⟨Ws,λ_ h=>yAi,λ_ h=>yAi⟩,?_⟩;rw[Fe,Ee];simp[Fq]
 have bW:((l.length:Int)==0)=false:=by rw[A64];omega
 go_upto_region 5 with(go_at_call_of 23 (Value.int IntKind.i64 10);refine(Ew g _ _ _ raA omz omz omz).mono ?_;rintro e w4 ⟨x,rfl,a8,aW,fG,aI⟩)
 have yN:Ac (λb=>Fr Q w.heap.size w.heap.size b/\b≠d) w3 w4:=Ez (Gq HQ omz aI) (λb _ h=>h.1);have dI:=hid (Bl I aI omz);have ak:Hid (RowOf 6 (Ot (λb=>Fr Q w.heap.size w.heap.size b/\b≠d) w4) xs l):=aG.imp λ_ _ _ h=>h.keep yN
 have gK:=Dx bU aI;have s4:=aI.size;clear I aG bK bU aI yN;by_cases aK:x=0
 ·subst aK
  go_wp2_with (first | (go_at_call 45;refine(Ie g _ _ raA omz).mono ?_;rintro e T ⟨s,ev,q,rfl,bV,dM,gW,pJ,aA,H⟩;obtain⟨y,z,rfl,_,_⟩:=id dM) | (go_at_call 42;refine(Qy g _ _ raA omz).mono ?_;rintro e A ⟨F,fv,D,rfl,uU,wU,jm,bM,aA,aC⟩;obtain⟨Z,fc,rfl,_,_⟩:=id wU))
  have s5:=H.size;have s6:=aC.size;have kc:∀{u v:World},u.grownBy v (some g)->Ac (λb=>Fr Q w.heap.size w.heap.size b/\b≠d) u v:=λh=>Ez (Gq HQ omz h) (λb _ h=>h.1)
  have ka:∀(u:World) (o:Obj),Ac (λb=>Fr Q w.heap.size w.heap.size b/\b≠d) u (u.alloc o):=λu o=>Ac.of_below (Aa _ _)
  have aL:∀b,(λb=>Fr Q w.heap.size w.heap.size b/\b≠d) b->(FrO Q w.heap.size w.heap.size (.slice (some ⟨d,0,none⟩) l.length Y)) b:=λb f=>⟨f.1,λe=>f.2 yBg⟩
  have a7:=((Eo dM).mono (λb _ f=>⟨Or.inr omz,omz⟩)).keep (kc aC);have bg:Ce (λb=>Fr Q w.heap.size w.heap.size b/\b≠d) A (.slice Z D.length fc) D:=(Eo wU).mono (λb _ f=>⟨Or.inr omz,omz⟩);have ap:Dk (λb=>Fr Q w.heap.size w.heap.size b/\b≠d) ((A.alloc (.cells #[.int .i64 F, .slice Z D.length fc] 40)).alloc (.cells #[.int .i64 1, .int .i64 s, .slice y q.length z, .slice none 0 0, .slice (some ⟨A.heap.size,0,none⟩) 1 1, .slice none 0 0] 46)) (.slice (some ⟨A.heap.size,0,none⟩) 1 1) [⟨F,D⟩]:=(Aav (b:=A.heap.size) (ns:=[⟨F,D⟩]) rfl (RowOf.one (cs:=[.int .i64 F, .slice Z D.length fc]) rfl ⟨_,rfl,bg⟩) ⟨Or.inr omz,omz⟩ spz).keep (ka _ _);have aX:Ot (FrO Q w.heap.size w.heap.size (.slice (some ⟨d,0,none⟩) l.length Y)) ((A.alloc (.cells #[.int .i64 F, .slice Z D.length fc] 40)).alloc (.cells #[.int .i64 1, .int .i64 s, .slice y q.length z, .slice none 0 0, .slice (some ⟨A.heap.size,0,none⟩) 1 1, .slice none 0 0] 46)) [.int .i64 1, .int .i64 s, .slice y q.length z, .slice none 0 0, .slice (some ⟨A.heap.size,0,none⟩) 1 1, .slice none 0 0] ⟨⟨1,⟨s,q⟩,[]⟩,[⟨F,D⟩],[]⟩:=Ot.mono (Q:=(λb=>Fr Q w.heap.size w.heap.size b/\b≠d)) ⟨_,_,_,_,rfl,(a7.keep (ka _ _)).keep (ka _ _),I5 _ _,ap,Q7 _ _⟩ (λb _=>aL b);have a9:Jd ⟨⟨1,⟨s,q⟩,[]⟩,[⟨F,D⟩],[]⟩/\F5 ⟨⟨1,⟨s,q⟩,[]⟩,[⟨F,D⟩],[]⟩<=20:=by
   refine⟨(Gy _ _ _).2 ⟨Gv dcz bV gW omz,λc hc=>?_,λ_ h=>yAi⟩,?_⟩
   ·rw[List.mem_singleton.1 hc];exact⟨uU,jm,by show D.length<=100000;omega⟩
   ·rw[Fe,Ee]
    simp[Fq,N7];omega
  have aZ:=hid a9;obtain⟨B,hB⟩:∃B,B=A.heap.size+1:=⟨_,rfl⟩
  have ac:∃(L:List Stil.Arm) (R:List Value),((A.alloc (.cells #[.int .i64 F, .slice Z D.length fc] 40)).alloc (.cells #[.int .i64 1, .int .i64 s, .slice y q.length z, .slice none 0 0, .slice (some ⟨A.heap.size,0,none⟩) 1 1, .slice none 0 0] 46)).ownsRow w.heap.size 46 6 (.slice (some ⟨d,0,none⟩) l.length Y) L.length R/\RowOf 6 (Ot (FrO Q w.heap.size w.heap.size (.slice (some ⟨d,0,none⟩) l.length Y)) ((A.alloc (.cells #[.int .i64 F, .slice Z D.length fc] 40)).alloc (.cells #[.int .i64 1, .int .i64 s, .slice y q.length z, .slice none 0 0, .slice (some ⟨A.heap.size,0,none⟩) 1 1, .slice none 0 0] 46))) R L/\Ot (FrO Q w.heap.size w.heap.size (.slice (some ⟨d,0,none⟩) l.length Y)) ((A.alloc (.cells #[.int .i64 F, .slice Z D.length fc] 40)).alloc (.cells #[.int .i64 1, .int .i64 s, .slice y q.length z, .slice none 0 0, .slice (some ⟨A.heap.size,0,none⟩) 1 1, .slice none 0 0] 46)) [.int .i64 1, .int .i64 s, .slice y q.length z, .slice none 0 0, .slice (some ⟨A.heap.size,0,none⟩) 1 1, .slice none 0 0] ⟨⟨1,⟨s,q⟩,[]⟩,[⟨F,D⟩],[]⟩/\Mc ((A.alloc (.cells #[.int .i64 F, .slice Z D.length fc] 40)).alloc (.cells #[.int .i64 1, .int .i64 s, .slice y q.length z, .slice none 0 0, .slice (some ⟨A.heap.size,0,none⟩) 1 1, .slice none 0 0] 46)) B 1 s (.slice y q.length z) (.slice none 0 0) (.slice (some ⟨A.heap.size,0,none⟩) 1 1) (.slice none 0 0)/\(Value.slice (some ⟨d,0,none⟩) l.length Y).ownBlock≠some B/\(∀a∈L,Jd a/\F5 a<=N+2000)/\L.length<=K+41/\H5 ((A.alloc (.cells #[.int .i64 F, .slice Z D.length fc] 40)).alloc (.cells #[.int .i64 1, .int .i64 s, .slice y q.length z, .slice none 0 0, .slice (some ⟨A.heap.size,0,none⟩) 1 1, .slice none 0 0] 46)) g (P+200+L.length)/\w.grownBy ((A.alloc (.cells #[.int .i64 F, .slice Z D.length fc] 40)).alloc (.cells #[.int .i64 1, .int .i64 s, .slice y q.length z, .slice none 0 0, .slice (some ⟨A.heap.size,0,none⟩) 1 1, .slice none 0 0] 46)) (some g):=by
   refine⟨l,xs,((Bl (Bl dI H omz) aC omz).alloc _).alloc _,ak.imp λ_ _ _ h=>((((h.keep (kc H)).keep (kc aC)).keep (ka _ _)).keep (ka _ _)).mono (λb _=>aL b),aX,?_,?_,λa ha=>⟨(U a ha).1,by have:=(U a ha).2;omega⟩,omz,?_,?_⟩
   ·rw[hB]
    refine⟨by simp,?_,?_,?_,?_,?_,?_,?_,?_,?_,?_,?_,?_⟩<;>simp[go_sem]
   ·intro e
    have:d=B:=by simpa[Value.ownBlock] using e
    omega
   ·exact Fg (Cb (Cb aA _) _) omz
   ·exact D5 (D5 (Dx (Dx gK H) aC) _) _
  rw[<-hB];have bI:w.heap.size<=B:=omz
  clear a9 aX ap bg a7 aL ka kc dM wU gW jm dI ak H aC gK fG hB;go_loopw [5] (λo J=>∃(L:List Stil.Arm) (R:List Value),J.ownsRow w.heap.size 46 6 o L.length R/\RowOf 6 (Ot (FrO Q w.heap.size w.heap.size o) J) R L/\Ot (FrO Q w.heap.size w.heap.size o) J [.int .i64 1, .int .i64 s, .slice y q.length z, .slice none 0 0, .slice (some ⟨A.heap.size,0,none⟩) 1 1, .slice none 0 0] ⟨⟨1,⟨s,q⟩,[]⟩,[⟨F,D⟩],[]⟩/\Mc J B 1 s (.slice y q.length z) (.slice none 0 0) (.slice (some ⟨A.heap.size,0,none⟩) 1 1) (.slice none 0 0)/\o.ownBlock≠some B/\(∀a∈L,Jd a/\F5 a<=N+2000)/\L.length<=K+41/\H5 J g (P+200+L.length)/\w.grownBy J (some g)) (λo _=>41 - lenV o)
  case atStart=>exact ac
  case round=>
   clear ac;obtain⟨L,R,aa,ab,aY,ag,ar,aU,bO,qA,nN⟩:=hrel;obtain⟨o1,c2,ho,-⟩:=Gx aa;subst ho;have I:=hid aa;have ae:=hid ab;have gq:=hid aY;have dA:=hid ag;have iF:=hid ar;have jr:=hid aU;have bE:=ag.1;have aM:Hid (∀b,(FrO Q w.heap.size w.heap.size (.slice o1 L.length c2)) b->some g≠some b):=λb f e=>by
    simp only[A65] at e;rcases f.1 with h | h
    ·have:=HQ b h.1;omega
    ·omega
   clear aa ab aY ag ar aU
   go_wp2_with (first | (go_at_call_of 23 (Value.int IntKind.i64 2);refine(Ew g _ _ _ qA omz omz omz).mono ?_;rintro e t ⟨aw,rfl,af,ao,kG,C⟩;have jT:=hid (dA.grownO C yAb);obtain⟨br,q0,q1,q2,q3,q4,q5,p0,p1,p2,p3,p4,p5⟩:=jT.out) | (at_builtin;refine wpList_append_own_at _ rfl _ _ 23 rfl w.heap.size 46 ia (.agg #[.int .i64 0, .int .i64 0, .slice none 0 0, .slice none 0 0, .slice none 0 0, .slice none 0 0]) 6 112 underlying23 a6 gJ gI gG rfl dcz _ _ _ rfl ((Bl I C omz).alloc _) _ _ _ [.int .i64 1, .int .i64 s, .slice y q.length z, .slice none 0 0, .slice (some ⟨A.heap.size,0,none⟩) 1 1, .slice none 0 0] rfl rfl yBb yAf yAe omz (by simp only[World.size_alloc];have:=C.size;omega) ?_;intro v' w8 dQ G yH kQ;clear q0 q1 q2 q3 q4 q5 p0 p1 p2 p3 p4 p5))
   ·have kg:=Ac.of_grown C (λb f e=>aM b f e)
    have kk:Ac (FrO Q w.heap.size w.heap.size (.slice o1 L.length c2)) wr (t.alloc (.cells #[.int .i64 1, .int .i64 s, .slice y q.length z, .slice none 0 0, .slice (some ⟨A.heap.size,0,none⟩) 1 1, .slice none 0 0] 46)):=kg.trans (Ac.of_below (Aa _ _));have s7:=C.size;have e6:L.length+1=(L++[(⟨⟨1,⟨s,q⟩,[]⟩,[⟨F,D⟩],[]⟩:Stil.Arm)]).length:=spz
    have bk:=Axo (gq.keep kk) G kQ;have bp:RowOf 6 (Ot (FrO Q w.heap.size w.heap.size v') w8) (R++[.int .i64 1, .int .i64 s, .slice y q.length z, .slice none 0 0, .slice (some ⟨A.heap.size,0,none⟩) 1 1, .slice none 0 0]) (L++[⟨⟨1,⟨s,q⟩,[]⟩,[⟨F,D⟩],[]⟩]):=((ae.imp λ_ _ _ h=>h.keep kk).append (RowOf.one rfl (gq.keep kk))).imp λ_ _ _ h=>Axo h G kQ
    refine⟨⟨L++[⟨⟨1,⟨s,q⟩,[]⟩,[⟨F,D⟩],[]⟩],_,by rw[e6] at dQ;exact dQ,bp,bk,(jT.alloc _).grownO G (λe=>iF e),Awb iF kQ yBf,?_,by rw[<-e6];omega,?_,?_⟩,?_⟩
    ·intro a ha
     rcases List.mem_append.1 ha with h | h
     ·exact jr a h
     ·rw[List.mem_singleton.1 h];exact⟨aZ.1,by have:=aZ.2;omega⟩
    ·exact Fg (Et (Cb kG _) G (λk O=>by have:=(I.lt _ O).1;omega)) (by rw[<-e6];omega)
    ·exact Jk (D5 (Dx nN C) _) G (λk O=>(I.lt _ O).1)
    ·obtain⟨o3,c3,bq,-⟩:=Gx dQ
     rw[bq];show 41 - (L.length+1)<41 - L.length
     omega
   ·have kg:=Ac.of_grown C (λb f e=>aM b f e)
    go_ret;exact⟨L,_,rfl,Fb (Bl I C omz) (ae.imp λ_ _ _ h=>(h.keep kg).mono λb _ f=>f.1) (λb f=>Or.inr (I.lt _ f).1),jr.out,omz,Fg kG omz,Dx nN C⟩
 by_cases a3:x=1
 ·subst a3
  clear a8 aW aK;go_upto_region 12 with(go_at_call_of 23 (l.length:Nat);refine(Ew g _ _ _ fG omz omz omz).mono ?_;rintro e T ⟨aw,rfl,af,ao,iI,H⟩;obtain⟨j,rfl⟩:=A7i af;have hj:j<l.length:=omz;clear af ao)
  have au:Ac (λb=>Fr Q w.heap.size w.heap.size b/\b≠d) w4 T:=Ez (Gq HQ omz H) (λb _ h=>h.1);have kX:=hid (Bl dI H omz);have wV:Hid (RowOf 6 (Ot (λb=>Fr Q w.heap.size w.heap.size b/\b≠d) T) xs l):=ak.imp λ_ _ _ h=>h.keep au
  have qF:=Dx gK H;have s5:=H.size;have bm:Bv l<=50000000:=by
   have h1:=Ama U.out;have h2:l.length*(2+2*N)<=1000*(2+2*N):=A7j _ omz;omega
  have vF:=hid (Abi l _ T (Fb (P:=λ_=>True) kX (wV.imp λ_ _ _ h=>h.mono λ_ _ _=>trivial) (λ_ _=>trivial)).at omz (Amb U omz));obtain⟨aF,hS⟩:∃aF,aF=Bv l:=⟨_,rfl⟩
  rw[<-hS] at vF bm;clear dI ak fG gK H au hS;go_upto_region 13 with(first | (go_at_call 16;refine vF.mono ?_;rintro e A ⟨rfl,ai⟩) | (go_at_call_of 23 (Value.int IntKind.i64 2);refine(Ew g _ _ _ (Et iI (grown_below ai none) (λk O=>by cases O)) omz omz omz).mono ?_;rintro e t ⟨aw,rfl,af,ao,kG,C⟩))
  have s6:=ai.size;have s7:=C.size;have vJ:=hid (Bl (Ad3 kX (grown_below ai none) (λ_ _ h=>by cases h)) C omz);have ja:Ac (λb=>Fr Q w.heap.size w.heap.size b/\b≠d) T t:=(Ac.of_below ai).trans (Ez (Gq HQ omz C) (λb _ h=>h.1));have zh:Hid (RowOf 6 (Ot (λb=>(Fr Q w.heap.size w.heap.size b/\b≠d)/\b<t.heap.size) t) xs l):=wV.imp λ_ _ _ h=>(h.keep ja).mono λb f h=>⟨h,f⟩
  have yO:=Dx (Dx qF (grown_below ai _)) C;have bL:d<t.heap.size:=omz
  clear kX wV qF ja vF C ai iI;obtain⟨av,nv,cv,kv,r0,r1,r2,r3,r4,r5,aj,ax,az,an,aD⟩:=Aa6 vJ zh hj;clear aj ax az aD r0 r1 r2 r3 r5;have S:=hid (U _ (A59 hj));obtain⟨X,hX⟩:∃X,X=l[j]:=⟨_,rfl⟩
  rw[<-hX] at S an;have HX:=hid hX;have oM:=hid an;obtain⟨u3,t3,rfl,-⟩:=an;have bA:X.coils.length<=20000:=by have:=(Aiz X []).1;have:=S.2;omega
  clear hX;go_upto_region 14 with(at_builtin;refine Ou rfl _ _ rfl (λb=>(Fr Q w.heap.size w.heap.size b/\b≠d)/\b<t.heap.size) t X.coils (.slice u3 X.coils.length t3) rfl rfl rfl oM omz ?_;intro b2 zQ w8 aR dQ rV bZ bY G;have aO:=hid dQ;have aT:Hid (RowOf 2 (Ls (λb=>(λb=>(Fr Q w.heap.size w.heap.size b/\b≠d)/\b<t.heap.size) b/\b<t.heap.size) w8) aR X.coils):=rV;have wZ:Hid ((t.alloc (.cells #[] 40)).grownBy w8 (some t.heap.size)):=G;clear dQ rV G)
  clear r4;have s8:=wZ.size;rw[World.size_alloc] at s8;have qp:H5 w8 g (P+3):=Fg (Et (Cb kG _) wZ yAc) omz
  go_wp2_with (go_at_call 42;refine(Qy g _ _ raA omz).mono ?_;rintro e V ⟨s,ev,q,rfl,bV,dM,gW,pJ,aA,lU⟩;obtain⟨y,z,rfl,_,_⟩:=id dM)
  have s9:=lU.size;obtain⟨B,hB⟩:∃B,B=V.heap.size:=⟨_,rfl⟩
  have ba:Hid (Wl ⟨s,q⟩/\q.length<=3):=⟨⟨bV,gW,by show q.length<=100000;omega⟩,pJ⟩
  have bc:Ac (λb=>(Fr Q w.heap.size w.heap.size b/\b≠d)/\b<t.heap.size) t w8:=(Ac.of_below (Aa _ _)).trans (Ac.of_grown wZ (λb f e=>by simp only[A65] at e;have:=f.2;omega));have qf:Ac (λb=>(Fr Q w.heap.size w.heap.size b/\b≠d)/\b<t.heap.size) w8 (V.alloc (.cells #[.int .i64 s, .slice y q.length z] 40)):=(Ez (Gq HQ omz lU) (λb _ h=>h.1.1)).trans (Ac.of_below (Aa _ _));have ac:∃(E:List Stil.Elem) (R:List Value) (m:Nat),(Value.int .i64 0)=.int .i64 m/\m<=401/\(V.alloc (.cells #[.int .i64 s, .slice y q.length z] 40)).ownsRow t.heap.size 40 2 (Value.slice (some ⟨b2,0,none⟩) X.coils.length zQ) E.length R/\RowOf 2 (Ls (Ofv (λb=>Fr Q w.heap.size w.heap.size b/\b≠d) (Value.slice (some ⟨b2,0,none⟩) X.coils.length zQ)) (V.alloc (.cells #[.int .i64 s, .slice y q.length z] 40))) R E/\Ls (Ofv (λb=>Fr Q w.heap.size w.heap.size b/\b≠d) (Value.slice (some ⟨b2,0,none⟩) X.coils.length zQ)) (V.alloc (.cells #[.int .i64 s, .slice y q.length z] 40)) [.int .i64 s, .slice y q.length z] ⟨s,q⟩/\Wj (V.alloc (.cells #[.int .i64 s, .slice y q.length z] 40)) B s (.slice y q.length z)/\(Value.slice (some ⟨b2,0,none⟩) X.coils.length zQ).ownBlock≠some B/\(∀x∈E,Wl x)/\Fq E<=Fq X.coils+4*m/\(V.alloc (.cells #[.int .i64 s, .slice y q.length z] 40)).ownsRow w.heap.size 46 6 (.slice (some ⟨d,0,none⟩) l.length Y) l.length xs/\RowOf 6 (Ot (λb=>(Fr Q w.heap.size w.heap.size b/\b≠d)/\b<t.heap.size) (V.alloc (.cells #[.int .i64 s, .slice y q.length z] 40))) xs l/\H5 (V.alloc (.cells #[.int .i64 s, .slice y q.length z] 40)) g (P+200)/\w.grownBy (V.alloc (.cells #[.int .i64 s, .slice y q.length z] 40)) (some g)/\t.heap.size<=(V.alloc (.cells #[.int .i64 s, .slice y q.length z] 40)).heap.size:=by
   refine⟨X.coils,aR,0,rfl,omz,(Bl aO lU omz).alloc _,aT.imp λ_ _ _ h=>((h.mono λb _ f=>f.1).keep qf).mono λb _ f=>⟨f.1,λe=>?_⟩,⟨_,rfl,((Eo dM).mono (P:=Ofv (λb=>Fr Q w.heap.size w.heap.size b/\b≠d) (Value.slice (some ⟨b2,0,none⟩) X.coils.length zQ)) λb _ f=>⟨⟨Or.inr omz,omz⟩,λe=>?_⟩).keep (Ac.of_below (Aa _ _))⟩,?_,?_,S.1.parts.2.1,omz,?_,zh.imp λ_ _ _ h=>(h.keep bc).keep qf,Fg (Cb aA _) omz,?_,by rw[World.size_alloc];omega⟩
   ·have:b2=b:=by simpa[Value.ownBlock] using e
    have:=f.2
    omega
   ·have:b2=b:=by simpa[Value.ownBlock] using e
    omega
   ·rw[hB]
    refine⟨by simp,?_,?_,?_,?_⟩<;>simp[go_sem]
   ·intro e
    have:b2=B:=by simpa[Value.ownBlock] using e
    omega
   ·refine(Bl (Ad3 (vJ.alloc _) wZ (λk O=>?_)) lU omz).alloc _
    have:d=k:=by simpa[Value.ownBlock] using O
    simp only[ne_eq,A65];omega
   ·exact D5 (Dx (Jk (D5 yO _) wZ yAc) lU) _
  rw[<-hB];obtain⟨ie,bs,kL,kK,kJ⟩:=info_parts Aao;clear bc qf aO aT wZ vJ zh oM lU dM gW qp yO kG hB;go_loopw [9,11] (λc i J=>∃(E:List Stil.Elem) (R:List Value) (m:Nat),i=.int .i64 m/\m<=401/\J.ownsRow t.heap.size 40 2 c E.length R/\RowOf 2 (Ls (Ofv (λb=>Fr Q w.heap.size w.heap.size b/\b≠d) c) J) R E/\Ls (Ofv (λb=>Fr Q w.heap.size w.heap.size b/\b≠d) c) J [.int .i64 s, .slice y q.length z] ⟨s,q⟩/\Wj J B s (.slice y q.length z)/\c.ownBlock≠some B/\(∀x∈E,Wl x)/\Fq E<=Fq X.coils+4*m/\J.ownsRow w.heap.size 46 6 (.slice (some ⟨d,0,none⟩) l.length Y) l.length xs/\RowOf 6 (Ot (λb=>(Fr Q w.heap.size w.heap.size b/\b≠d)/\b<t.heap.size) J) xs l/\H5 J g (P+200)/\w.grownBy J (some g)/\t.heap.size<=J.heap.size) (λ_ i _=>401 - (intOf i).toNat)
  case atStart=>exact ac
  case round=>
   clear ac;obtain⟨E,R,m,rfl,hm,aa,ab,ap,ag,ar,a2,bu,bf,aS,qA,nN,bC⟩:=hrel;obtain⟨o1,c2,ho,-⟩:=Gx aa;subst ho;have I:=hid aa;have ae:=hid ab;have a5:=hid ap;have dA:=hid ag;have iF:=hid ar;have jv:=hid a2;have zl:=hid bf;have zf:=hid aS;have bi:Fq E=E.length+(E.map N7).sum:=rfl;have bT:=(Aiz X []).2.1;have bP:=S.2;have b0:E.length<=30000:=omz
   have bX:=ag.1;have su:∀k,(Value.slice o1 E.length c2).ownBlock=some k->d≠k:=λk O=>by have:=(I.lt k O).1;omega
   clear aa ab ap ag ar a2 bf aS bi;by_cases bB:(m:Int)<400 - aF+aw
   ·obtain⟨br,q0,q1,p0,p1⟩:=dA.out
    go_wp2_with (at_builtin;refine wpList_append_own_at _ rfl _ _ 44 rfl t.heap.size 40 ie (.agg #[.int .i64 0, .slice none 0 0]) 2 32 underlying44 bs kL kK kJ rfl dcz _ _ _ rfl (I.alloc _) _ _ _ [.int .i64 s, .slice y q.length z] rfl rfl yBb yCa yAe omz yBd ?_;intro v' bJ dQ G yH kQ)
    have ka:Ac (Ofv (λb=>Fr Q w.heap.size w.heap.size b/\b≠d) (Value.slice o1 E.length c2)) wr (wr.alloc (.cells #[.int .i64 s, .slice y q.length z] 40)):=Ac.of_below (Aa _ _);have e6:E.length+1=(E++[(⟨s,q⟩:Stil.Elem)]).length:=spz
    have bo:=G.size;rw[World.size_alloc] at bo;refine⟨⟨E++[⟨s,q⟩],_,m+1,by go_num,omz,by rw[e6] at dQ;exact dQ,((ae.imp λ_ _ _ h=>h.keep ka).append (RowOf.one rfl (a5.keep ka))).imp λ_ _ _ h=>Apk h G kQ,Apk (a5.keep ka) G kQ,Ack (Ack dA (grown_below (Aa wr _) none) spz) G (λe=>iF e),Awb iF kQ yBf,?_,?_,Ad3 (zl.alloc _) G (λk O e=>?_),zf.imp λ_ _ _ h=>(h.keep (Ac.of_below (Aa _ _))).keep (Ac.of_grown G (λb f e=>?_)),Et (Cb qA _) G (λk O=>by have:=(I.lt _ O).1;omega),Jk (D5 nN _) G (λk O=>by have:=(I.lt _ O).1;omega),omz⟩,by simp[intOf];omega⟩
    ·intro x hx
     rcases List.mem_append.1 hx with h | h
     ·exact jv x h
     ·rw[List.mem_singleton.1 h];exact ba.1
    ·have h3:=ba.2
     simp only[Fq,A52,A6g,A78,A53,A54,A6k,A66,A7b,A8b,N7] at bu ⊢;omega
    ·have:d=k:=by simpa[Value.ownBlock] using O
     exact su k e this
    ·have h1:=(I.lt b e).1
     have h2:=f.2;omega
   ·obtain⟨av,nv,cv,kv,r0,r1,r2,r3,r4,r5,aj,-,-,-,-⟩:=Aa6 zl zf hj
    have f4:=aj (j*6+4);clear r0 r1 r2 r3 r5 aj;have bh:=Ja I (ae.imp λ_ _ _ h=>h.mono λb _ f=>f.1) (λb f=>by have h1:=(I.lt b f).1;exact⟨Or.inr omz,omz⟩);obtain⟨ys,ah,aB⟩:=Ayt zl (zf.imp λ_ _ _ h=>h.mono λb _ f=>f.1) hj (λh=>h.2 rfl) bh;have bj:Hid (Es (Fr Q w.heap.size w.heap.size) (wr.setCell ⟨d,j*6+4,none⟩ (Value.slice o1 E.length c2)) (.slice (some ⟨d,0,none⟩) l.length Y) (l.set j ⟨l[j].net,E,l[j].kids⟩)):=by
     have e:l.length=(l.set j (⟨l[j].net,E,l[j].kids⟩:Stil.Arm)).length:=spz
     rw[e] at ah
     have h:=Fb (P:=(Fr Q w.heap.size w.heap.size)) ah (aB.imp λ_ _ _ h=>h.mono λb _ f=>f.1) (λb f=>by
      have:d=b:=by simpa[Value.ownBlock] using f
      exact Or.inr omz)
     rw[<-e] at h;exact h
    clear ah aB bh
    go_wp2
    go_ret;refine⟨_,_,rfl,bj.out,?_,by rw[A8i];omega,Fg (Jp qA omz _) omz,Lt dS nN _⟩;intro a ha;rcases A8g ha with h | rfl
    ·exact⟨(U a h).1,by have:=(U a h).2;omega⟩
    ·rw[<-HX.out]
     refine⟨(Gy _ _ _).2 ⟨S.1.parts.1,jv.out,S.1.parts.2.2⟩,?_⟩;have:=(Aiz X E).2.2
     omega
 clear a8 aW;have bz:(x==0)=false:=by rw[A64];exact aK
 have bG:(x==1)=false:=by rw[A64];exact a3
 go_upto_region 22 with(go_at_call_of 23 (l.length:Nat);refine(Ew g _ _ _ fG omz omz omz).mono ?_;rintro e T ⟨aw,rfl,af,ao,iI,H⟩;obtain⟨j,rfl⟩:=A7i af;have hj:j<l.length:=omz;clear af ao)
 have au:Ac (λb=>Fr Q w.heap.size w.heap.size b/\b≠d) w4 T:=Ez (Gq HQ omz H) (λb _ h=>h.1);have kX:=hid (Bl dI H omz);have wV:Hid (RowOf 6 (Ot (λb=>Fr Q w.heap.size w.heap.size b/\b≠d) T) xs l):=ak.imp λ_ _ _ h=>h.keep au
 have qF:=Dx gK H;have s5:=H.size;have al:d<T.heap.size:=omz
 clear dI ak fG gK H au;obtain⟨av,nv,cv,kv,r0,r1,r2,r3,r4,r5,aj,ax,az,an,aD⟩:=Aa6 kX wV hj;clear aj;have S:=hid (U _ (A59 hj));have HI:=
  hid (Aj1 _ _ g (P+1+1) T av nv cv kv (λb f=>by rcases f.1 with h | h;exact HQ b h.1;omega) ax az an aD S.1 (by have:=S.2;omega) iI (by have:=S.2;omega))
 obtain⟨X,hX⟩:∃X,X=l[j]:=⟨_,rfl⟩
 rw[<-hX] at HI S r0 r1;obtain⟨u1,t1,rfl,-⟩:=ax;obtain⟨u2,t2,rfl,-⟩:=az;obtain⟨u3,t3,rfl,-⟩:=an;obtain⟨u4,t4,rfl,-⟩:=aD;clear hX iI;go_upto_region 23 with(go_at_call 46;refine HI.mono ?_;rintro e t ⟨M,yh,bR,bN,bS,rfl,fK,jG,nO,jI,pG,pX,kG,C⟩;have rP:=hid fK;have jE:=hid jG;have lm:=hid nO;have bv:=hid jI;have zX:=hid pG;have dR:=Bl kX C omz;obtain⟨d0,d1,d2,d3,d4,d5,f0,f1,f2,f3,f4,f5⟩:=(⟨dR.frozenAt (j*6),dR.frozenAt (j*6+1),dR.frozenAt (j*6+2),dR.frozenAt (j*6+3),dR.frozenAt (j*6+4),dR.frozenAt (j*6+5),(Df C al omz).trans r0,(Df C al omz).trans r1,(Df C al omz).trans r2,(Df C al omz).trans r3,(Df C al omz).trans r4,(Df C al omz).trans r5⟩:t.frozen? ⟨d,j*6,none⟩=false/\t.frozen? ⟨d,j*6+1,none⟩=false/\t.frozen? ⟨d,j*6+2,none⟩=false/\t.frozen? ⟨d,j*6+3,none⟩=false/\t.frozen? ⟨d,j*6+4,none⟩=false/\t.frozen? ⟨d,j*6+5,none⟩=false/\t.cell? ⟨d,j*6,none⟩=_/\t.cell? ⟨d,j*6+1,none⟩=_/\t.cell? ⟨d,j*6+2,none⟩=_/\t.cell? ⟨d,j*6+3,none⟩=_/\t.cell? ⟨d,j*6+4,none⟩=_/\t.cell? ⟨d,j*6+5,none⟩=_);obtain⟨y1,z1,rfl,-⟩:=fK;obtain⟨y2,z2,rfl,-⟩:=jG;obtain⟨y3,z3,rfl,-⟩:=nO;obtain⟨y4,z4,rfl,-⟩:=jI;clear dR pG r0 r1 r2 r3 r4 r5)
 obtain⟨W,hW⟩:∃W,W=(((((t.setCell ⟨d,j*6,none⟩ (.int .i64 M.net.kind)).setCell ⟨d,j*6+1,none⟩ (.int .i64 M.net.one.op)).setCell ⟨d,j*6+2,none⟩ (.slice y1 M.net.one.args.length z1)).setCell ⟨d,j*6+3,none⟩ (.slice y2 M.net.kids.length z2)).setCell ⟨d,j*6+4,none⟩ (.slice y3 M.coils.length z3)).setCell ⟨d,j*6+5,none⟩ (.slice y4 M.kids.length z4):=⟨_,rfl⟩
 rw[<-hW];have s7:=C.size;have ay:∀b,b<t.heap.size->Fr (λb=>Fr Q w.heap.size w.heap.size b/\b≠d) T.heap.size T.heap.size b->Fr Q w.heap.size w.heap.size b/\b≠d:=λb _ h=>by
  rcases h with h | h
  ·exact h.1
  ·exact⟨Or.inr omz,omz⟩
 have ja:Ac (λb=>Fr Q w.heap.size w.heap.size b/\b≠d) T t:=Ez (Gq HQ omz C) (λb _ h=>h.1);have ac:=Ays (Bl kX C omz) (wV.imp λ_ _ _ h=>h.keep ja) hj (λh=>h.2 rfl) (rP.mono ay) (jE.mono ay) (lm.mono ay) (bv.mono ay);have aQ:W=set6 t d (j*6) (.int .i64 M.net.kind) (.int .i64 M.net.one.op) (.slice y1 M.net.one.args.length z1) (.slice y2 M.net.kids.length z2) (.slice y3 M.coils.length z3) (.slice y4 M.kids.length z4):=hW;rw[<-aQ] at ac;obtain⟨ys,ah,aB⟩:=ac;have qy:H5 W g (P+300000):=by
  have:=S.2
  rw[hW];exact Fg (Jp (Jp (Jp (Jp (Jp (Jp (kG) omz _) omz _) omz _) omz _) omz _) omz _) omz
 have bw:w.grownBy W (some g):=by
  rw[hW];exact Lt dS (Lt dS (Lt dS (Lt dS (Lt dS (Lt dS (Dx qF C) _) _) _) _) _) _
 have bn:Es (Fr Q w.heap.size w.heap.size) W (.slice (some ⟨d,0,none⟩) l.length Y) (l.set j M):=by
  have e:l.length=(l.set j M).length:=spz
  rw[e] at ah ⊢
  exact Fb ah (aB.imp λ_ _ _ h=>h.mono λb _ f=>f.1) (λb f=>by
   have:d=b:=by simpa[Value.ownBlock] using f
   exact Or.inr omz)
 clear hW aQ
 go_wp2
 go_ret;refine⟨l.set j M,_,rfl,bn,?_,by rw[A8i];omega,qy,bw⟩;intro a ha;rcases A8g ha with h | rfl
 ·exact⟨(U a h).1,by have:=(U a h).2;omega⟩
 ·exact⟨zX.out,by have:=S.2;omega⟩
end Go.Proofs.YtnpfcnolmkanfaaGreatDoor
