import Derived.Test.YtifcnfeppdbjdaaGreatDoorG5
namespace Go.Proofs.YtifcnfeppdbjdaaGreatDoor
open Tryz Stil Go.RowKit Go.Sort Go.BigFrame
variable {B N:Nat}{av cv kv nv u v v':Value}{k op:Int}{w':World}
theorem LQ:(prog.info? 51).map (λi=>(i.zero,i.size,i.bytes))=some (some (.agg #[AB 0,AG]),2,32):=AX
theorem Zd:(prog.info? 62).map (λi=>(i.zero,i.size,i.bytes))=some (some (.agg #[AB 0,AB 0,AG,AG,AG,AG]),6,112):=AX
def JC (e:Ending)(w w':World)(g Q N:Nat):Prop:=∃(a:Stil.B8) (av nv cv kv:Value),e=.returned (.agg #[AB a.net.kind,AB a.net.one.op,av,nv,cv,kv])/\Bi (λb=>w.heap.size<=b) w' av a.net.one.args/\Dp (λb=>w.heap.size<=b) w' nv a.net.kids/\Dq (λb=>w.heap.size<=b) w' cv a.coils/\Em (λb=>w.heap.size<=b) w' kv a.kids/\Jj a/\Gs a<=N/\Ig w' g Q/\w.grownBy w' (some g)
def Dm:Nat->Nat
 | 0=>1000
 | m+1=>3*Dm m+1000
def ER:Nat->Nat
 | 0=>200
 | m+1=>3*ER m+200
theorem i6 (m:Nat):1000<=Dm m:=by cases m<;>simp[Dm]
theorem i5 (m:Nat):200<=ER m:=by cases m<;>simp[ER]
def Lr (w:World)(b:Nat)(k op:Int)(av nv cv kv:Value):Prop:=b<w.heap.size/\w.cell? ⟨b,0,none⟩=some (AB k)/\w.cell? ⟨b,1,none⟩=some (AB op)/\w.cell? ⟨b,2,none⟩=some av/\w.cell? ⟨b,3,none⟩=some nv/\w.cell? ⟨b,4,none⟩=some cv/\w.cell? ⟨b,5,none⟩=some kv/\w.frozen? ⟨b,0,none⟩=false/\w.frozen? ⟨b,1,none⟩=false/\w.frozen? ⟨b,2,none⟩=false/\w.frozen? ⟨b,3,none⟩=false/\w.frozen? ⟨b,4,none⟩=false/\w.frozen? ⟨b,5,none⟩=false
theorem BG {W:World}{b:Nat}(h:Lr W b k op av nv cv kv:=by refine⟨BU,?_,?_,?_,?_,?_,?_,?_,?_,?_,?_,?_,?_⟩<;>first | (exact cfA;done) | (repeat (first | with_reducible assumption | with_reducible refine Ot.trans ?_ | with_reducible refine Gw.trans ?_ | with_reducible refine(Iw BU).trans ?_ | (simp[go_sem];done)))):Lr W b k op av nv cv kv:=h
theorem Lr.grownO {w:World}{b:Nat}{r:Option Nat}(h:Lr w b k op av nv cv kv)(hg:w.grownBy w' r)(hr:r≠some b):Lr w' b k op av nv cv kv:=by
 obtain⟨d,f⟩:=h;have e:w'.heap[b]?=w.heap[b]?:=hg.block b d (λx=>hr x.symm);have c:∀o,w'.cell? (AK b o)=w.cell? (AK b o):=λo=>by unfold World.cell?;rw[e]
 have a:∀o,w'.frozen? (AK b o)=w.frozen? (AK b o):=λo=>by unfold World.frozen?;rw[e]
 refine⟨CB d hg.size,?_⟩;rw[c,c,c,c,c,c,a,a,a,a,a,a];exact f
theorem PX {w:World}{c:List Stil.CC}(h:Bi (CX B v) w u c)(hg:w.grownBy w' v.ownBlock)(e:v'.ownBlock=v.ownBlock\/v'.ownBlock=some w.heap.size):Bi (CX B v') w' u c:=by
 have f:Bi (λb=>CX B v b/\CX B v' b) w u c:=h.mono λb d a=>⟨a,Y6 e b d a⟩
 exact(f.keep (Gi (Y7 (B:=B) hg) λb _ a=>a.1)).mono λb _ a=>a.2
theorem P4 {w:World}{ns:List Stil.B9}(h:Dp (CX B v) w u ns)(hg:w.grownBy w' v.ownBlock)(d:v'.ownBlock=v.ownBlock\/v'.ownBlock=some w.heap.size):Dp (CX B v') w' u ns:=by
 have e:Dp (λb=>CX B v b/\CX B v' b) w u ns:=h.mono λb c a=>⟨a,Y6 d b c a⟩
 exact(e.keep (Gi (Y7 (B:=B) hg) λb _ a=>a.1)).mono λb _ a=>a.2
theorem ep {w:World}{es:List Stil.Elem}(h:Dq (CX B v) w u es)(hg:w.grownBy w' v.ownBlock)(d:v'.ownBlock=v.ownBlock\/v'.ownBlock=some w.heap.size):Dq (CX B v') w' u es:=by
 have e:Dq (λb=>CX B v b/\CX B v' b) w u es:=h.mono λb c a=>⟨a,Y6 d b c a⟩
 exact(e.keep (Gi (Y7 (B:=B) hg) λb _ a=>a.1)).mono λb _ a=>a.2
theorem X6:Kw ⟨0,⟨0,[]⟩,[]⟩:=Ht AY AY (λ_ h=>BE) AU
def KL (w0 a:World)(B:Nat)(g Q k:Nat):Prop:=∃(n:Stil.B9) (av nv cv:Value) (b:List Stil.Elem) (d:List Value),
 Lr a w0.heap.size 0 0 AG AG AG AG/\Lr a B n.kind n.one.op av nv cv AG/\Bi (CX B cv) a av n.one.args/\Dp (CX B cv) a nv n.kids/\
 a.ownsRow (B+1) 51 2 cv b.length d/\RowOf 2 (Nw (CX B cv) a) d b/\Kw n/\G9 n<=130/\(∀c∈b,X0 c/\c.args.length<=3)/\b.length<=k/\Ig a g Q/\w0.grownBy a (some g)
theorem Lr.set {w:World}{b a o:Nat}(h:Lr w b k op av nv cv kv)(d:b≠a):Lr (w.setCell (AK a o) v) b k op av nv cv kv:=by
 obtain⟨e,c⟩:=h;refine⟨by simpa using e,?_⟩;simp only[Gm d,Gw];exact c
theorem Lr.set5 {w:World}{b:Nat}(h:Lr w b k op av nv cv kv):Lr (w.setCell (AK b 5) v) b k op av nv cv v:=by
 obtain⟨i,d,g,c,j,f,e,a⟩:=h;refine⟨by simpa using i,?_⟩;rw[Fa AY,Fa AY,Fa AY,Fa AY,Fa AY,Hm e];simp only[Gw];exact⟨d,g,c,j,f,by first | rfl | trivial,a⟩
theorem Lr.alloc {w:World}{b:Nat}(h:Lr w b k op av nv cv kv)(o:Obj):Lr (w.alloc o) b k op av nv cv kv:=h.grownO (grown_below (Aa w o) none) AU
theorem Lr.c4 {w:World}{b:Nat}(h:Lr w b k op av nv cv kv):b<w.heap.size/\w.cell? (AK b 4)=some cv/\w.frozen? (AK b 4)=false:=by
 obtain⟨d,l,n,j,p,a,m,g,i,o,f,c,e⟩:=h;exact⟨d,a,c⟩
theorem Lr.c5 {w:World}{b:Nat}(h:Lr w b k op av nv cv kv):b<w.heap.size/\w.cell? (AK b 5)=some kv/\w.frozen? (AK b 5)=false:=by
 obtain⟨d,j,m,i,p,l,c,f,g,o,e,n,a⟩:=h;exact⟨d,c,a⟩
theorem MN {α:Type}(f:α->Nat)(N:Nat):∀l:List α,(∀x∈l,f x<=N)->(l.map f).sum<=l.length*N
 | [],_=>by simp
 | y::r,h=>by
  have a:=h y AU;have b:=MN f N r (λx hx=>h x BS);simp only[CP,DW,CH,G3];omega
def Qf (w0 b:World)(B g Q k N:Nat):Prop:=∃(n:Stil.B9) (av nv cv kv:Value) (e:List Stil.Elem) (d:List Stil.B8) (f:List Value),
 Lr b w0.heap.size 0 0 AG AG AG AG/\Lr b B n.kind n.one.op av nv cv kv/\Bi (CX B kv) b av n.one.args/\Dp (CX B kv) b nv n.kids/\Dq (CX B kv) b cv e/\
 b.ownsRow (B+1) 62 6 kv d.length f/\RowOf 6 (N9 (CX B kv) b) f d/\Kw n/\G9 n<=130/\(∀c∈e,X0 c/\c.args.length<=3)/\e.length<=2/\(∀a∈d,Jj a/\Gs a<=N)/\d.length=k/\Ig b g Q/\w0.grownBy b (some g)
theorem M8 {n:Stil.B9}{cs:List Stil.Elem}{ks:List Stil.B8}(h1:G9 n<=130)(h:∀c∈cs,X0 c/\c.args.length<=3)(f:∀a∈ks,Jj a/\Gs a<=N):Gs ⟨n,cs,ks⟩<=130+4*cs.length+ks.length+ks.length*N:=by
 rw[Fv];have e:Gx cs=cs.length+(cs.map Pv).sum:=rfl;have a:=MN Pv 3 cs (λc g=>(h c g).2);have b:=MN Gs N ks (λa d=>(f a d).2);omega
theorem QH {n:Stil.B9}{cs:List Stil.Elem}{ks:List Stil.B8}(h1:Kw n)(f:∀c∈cs,X0 c/\c.args.length<=3)(d:∀a∈ks,Jj a/\Gs a<=N):Jj ⟨n,cs,ks⟩:=(G5 _ _ _).2 ⟨h1,λc e=>(f c e).1,λa b=>(d a b).1⟩
theorem MS {p:Prop}(h:p):Hid p:=h
set_option maxHeartbeats 20000000 in
set_option maxRecDepth 100000 in
theorem YZ (m:Nat)(ih:∀(j:Nat),m=j+1->∀(d:Int) (root:Bool) (g P:Nat) (w:World),d=j->Ig w g P->P+Dm j<=100000000->Calls prog 110 #[AH g,AB d, .bool root] w λe w'=>JC e w w' g (P+Dm j) (ER j))
  (d:Int) (root:Bool) (g P:Nat) (w:World) (hd:d=m) (hm:m<=100) (hr:Ig w g P) (hP:P+Dm m<=100000000):
  Calls prog 110 #[AH g,AB d, .bool root] w λe w'=>JC e w w' g (P+Dm m) (ER m):=by
 subst hd;have hg:=Va hr;have aY:Hid (∀(j:Nat),m=j+1->∀(d:Int) (root:Bool) (g P:Nat) (w:World),d=j->Ig w g P->P+Dm j<=100000000->Calls prog 110 #[AH g,AB d, .bool root] w λe w'=>JC e w w' g (P+Dm j) (ER j)):=ih;clear ih;have br:=i6 m;have bz:=i5 m;obtain⟨ie,aT,lX,lW,lV⟩:=info_parts LQ;obtain⟨ia,bg,iI,iH,iG⟩:=info_parts Zd;go_enter func110,ntmps110;go_upto_region 2 with fail
 go_cut [16] (λc wq=>∃b:Bool,c=.bool b/\Ig wq g (P+1)/\w.grownBy wq (some g)/\Lr wq w.heap.size 0 0 AG AG AG AG/\Lr wq (w.heap.size+1) 0 0 AG AG AG AG)
 case first=>
  cases root
  ·go_wp2_with ((go_at_call_of 37 (Value.int IntKind.i64 3);refine(Fp g _ _ _ Ab AQ AQ AQ).mono ?_;rintro e wa ⟨x,rfl,au,aQ,z,bo⟩;obtain⟨ag,L,p0,q1,p1,J,p2,O,p3,K,X,I,Z⟩:EF wa w.heap.size:=EG;obtain⟨aa,q6,p6,q7,p7,q8,p8,q9,Y,G,F,D,E⟩:EF wa ((w.heap.size+1)):=EG))
   go_meet;exact⟨decide (0<x),rfl,A2,A0,BG,BG⟩
  ·go_wp2
   go_meet;exact⟨true,rfl,A2,A0,BG,BG⟩
 case rest=>
  obtain⟨b,rfl,z,S,⟨ag,L,q1,J,O,K,I,p0,p1,p2,p3,X,Z⟩,⟨aa,q6,q7,q8,q9,G,D,p6,p7,p8,Y,F,E⟩⟩:=hcut;have dK:FV 2=130:=rfl;have bs:EW 2=650:=rfl;go_upto_if 16 with fail
  go_cut [] (λwq=>KL w wq (w.heap.size+1) g (P+651) 0)
  case first=>
   go_wp2_with ((go_at_call 133;refine(i9 2 _ g _ _ AQ rfl Ab AQ).mono ?_;rintro e wb ⟨n1,av,nv,rfl,t,s,a6,bq,z,bp⟩;obtain⟨a1,c1,rfl,-⟩:=id t;obtain⟨a2,c2,rfl,-⟩:=id s;obtain⟨ag,L,p0,q1,p1,J,p2,O,p3,K,X,I,Z⟩:EF wb w.heap.size:=EG;obtain⟨aa,q6,p6,q7,p7,q8,p8,q9,Y,G,F,D,E⟩:EF wb ((w.heap.size+1)):=EG))
   ·go_meet
    have aU:∀x,x<wb.heap.size->wc.heap.size<=x->w.heap.size+1<x:=λx _ h=>by omega
    exact⟨n1,_,_,_,[],[],BG,(show Lr _ (w.heap.size+1) n1.kind n1.one.op (AE a1 n1.one.args.length c1) (AE a2 n1.kids.length c2) AG AG from BG),((t.mono aU).keep (P:=λx=>w.heap.size+1<x) BJ).mono (λx _ h=>⟨h,by simp[Value.ownBlock]⟩),((s.mono aU).keep (P:=λx=>w.heap.size+1<x) BJ).mono (λx _ h=>⟨h,by simp[Value.ownBlock]⟩),⟨rfl,Or.inl ⟨rfl,rfl⟩⟩,RowOf.nil _ _,a6,AQ,λ_ h=>BE,AU,A2,A0⟩
   ·go_meet
    exact⟨⟨0,⟨0,[]⟩,[]⟩,_,_,_,[],[],BG,(show Lr _ (w.heap.size+1) 0 0 AG AG AG AG from BG),Tc _ _,Jr _ _,⟨rfl,Or.inl ⟨rfl,rfl⟩⟩,RowOf.nil _ _,X6,by rw[E5];simp,λ_ h=>BE,AU,A2,A0⟩
  case rest=>
   clear L q1 J O K I q6 q7 q8 q9 G D p0 p1 p2 p3 X Z p6 p7 p8 Y F E z S
   go_wp2_with (go_at_call 37;obtain⟨n,av,nv,cv,q,xs,ae,ac,t,s,l,M,V,T,H,ah,z,S⟩:=hcut;refine(Fp g _ _ _ z AQ AQ AQ).mono ?_;rintro e w3 ⟨x,rfl,au,aQ,bK,aI⟩)
   obtain⟨x2,wE⟩:=FP au;subst wE;have bm:x2<=2:=AQ
   have ba:KL w w3 (w.heap.size+1) g (P+652+40*(2 - x2)) (2 - x2):=by
    refine⟨n,av,nv,cv,q,xs,ae.grownO aI BA,ac.grownO aI BA,?_,?_,Bv l aI AQ,?_,V,T,H,AQ,F6 bK AQ,D5 S aI⟩
    ·exact t.keep (Ac.of_grown aI (λb f e=>by have:=f.1;simp only[CZ] at e;omega))
    ·exact s.keep (Ac.of_grown aI (λb f e=>by have:=f.1;simp only[CZ] at e;omega))
    ·exact M.imp λ_ _ _ h=>h.keep (Ac.of_grown aI (λb f e=>by have:=f.1;simp only[CZ] at e;omega))
   clear ae ac t s l M V T H ah z S bK;go_loopw [8] (λi wr=>∃af:Nat,af<=2/\i=AB af/\KL w wr (w.heap.size+1) g (P+652+40*(2 - af)) (2 - af)) (λi _=>(intOf i).toNat)
   case atStart=>exact⟨x2,bm,rfl,ba⟩
   case round=>
    obtain⟨af,hj,rfl,n,av,nv,cv,q,xs,ae,ac,t,s,l,M,V,T,H,ah,z,S⟩:=hrel;obtain⟨ag,L,q1,J,O,K,I,p0,p1,p2,p3,X,Z⟩:=ae;obtain⟨aa,q6,q7,q8,q9,G,D,p6,p7,p8,Y,F,E⟩:=ac;obtain⟨a1,c1,rfl,-⟩:=id t;obtain⟨a2,c2,rfl,-⟩:=id s;obtain⟨R,Q,al,-⟩:=Hg l;subst al;by_cases aE:0<af
    ·go_upto_region 7 with fail
     rename_i aA;have az:=MS aA;clear aA
     go_region_law (first | (refine Eh rfl _ _ 60 rfl (w.heap.size+1+1) 51 ie (.agg #[AB 0,AG]) 2 32 underlying60 aT lX lW lV rfl AY _ _ _ rfl (aF.alloc _) _ _ _ [AB op,AE a4 U.length c4] rfl rfl BP yDd A6 AQ Bm ?_;intro v' w6 an C aW;obtain⟨rW,rM,aB,-⟩:=Hg an;subst aB;have a9:Lr (y.alloc (.cells #[AB op,AE a4 U.length c4] 51)) w.heap.size 0 0 AG AG AG AG:=BG;have a8:Lr (y.alloc (.cells #[AB op,AE a4 U.length c4] 51)) (w.heap.size+1) n.kind n.one.op (AE a1 n.one.args.length c1) (AE a2 n.kids.length c2) (AE R q.length Q) AG:=BG;clear L q1 J O K I q6 q7 q8 q9 G D p0 p1 p2 p3 X Z p6 p7 p8 Y F E;obtain⟨ag,L,q1,J,O,K,I,p0,p1,p2,p3,X,Z⟩:=a9.grownO C (λe=>by have:=l.lt _ e;omega);obtain⟨aa,q6,q7,q8,q9,G,D,p6,p7,p8,Y,F,E⟩:=a8.grownO C (λe=>by have:=l.lt _ e;omega)) | (go_simp;go_at_call 40;refine(Pg g _ _ Ab AQ).mono ?_;rintro e y ⟨op,v,U,rfl,aS,hv,hs,hl,z,aN⟩;have ab:wr.grownBy y (some g):=⟨aN.os,aN.tape,aN.output,aN.size,aN.block⟩;obtain⟨a4,c4,rfl,-⟩:=id hv;have aF:=Bv l ab AQ;obtain⟨ag,L,p0,q1,p1,J,p2,O,p3,K,X,I,Z⟩:EF y w.heap.size:=EG;obtain⟨aa,q6,p6,q7,p7,q8,p8,q9,Y,G,F,D,E⟩:EU y ((w.heap.size+1)) (AB n.kind) (AB n.one.op) (AE a1 n.one.args.length c1) (AE a2 n.kids.length c2) (AE R q.length Q) AG:=qb6))
     all_goals have aA:=az.out
     all_goals go_wp2
     all_goals
      have ai:Ac (CX (w.heap.size+1) (AE R q.length Q)) wr (y.alloc (.cells #[AB op,AE a4 U.length c4] 51)):=(Ac.of_grown ab (λb f e=>by have:=f.1;simp only[CZ] at e;omega)).trans (Ac.of_below (Aa _ _));have ap:∀b,b<y.heap.size->wr.drew.heap.size - 1<b->CX (w.heap.size+1) (AE R q.length Q) b:=λb _ f=>by
       have e:wr.drew.heap.size=wr.heap.size:=rfl;exact⟨AQ,λe2=>by have h1:=(l.lt _ e2).2;omega⟩
      have kE:=TM (M.imp λ_ _ _ h=>h.keep ai) (Nw.keep (w:=y) (e:=⟨op,U⟩) ⟨_,rfl,(Ew hv).mono ap⟩ (Ac.of_below (Aa _ _))) rfl C aW;have el:(q++[(⟨op,U⟩:Stil.Elem)]).length=q.length+1:=AU
      refine⟨⟨af - 1,AQ,by go_num,n,_,_,AE rW (q.length+1) rM,q++[⟨op,U⟩],_,BG,BG,(PX (t.keep ai) C aW).keep (Ac.set B7 _),(P4 (s.keep ai) C aW).keep (Ac.set B7 _),?_,kE.imp (λ_ _ _ h=>h.keep (Ac.set B7 _)),V,T,?_,?_,?_,?_⟩,by simp[intOf];omega⟩
      ·rw[el];exact ownsRow_setCell_below an (DV _) _
      ·intro c hc
       rcases List.mem_append.1 hc with hc | hc
       ·exact H c hc
       ·simp at hc;subst hc;exact⟨⟨aS,hs,by show U.length<=100000;omega⟩,hl⟩
      ·rw[el];omega
      ·exact F6 (J8 (Fj (Bl z _) C (λk hk=>by have:=l.lt _ hk;omega)) AQ _) AQ
      ·exact Lj (K4 (DV _)) (J5 (Ea (D5 S ab) _) C (λk hk=>by have:=l.lt _ hk;omega)) _
    ·obtain rfl:af=0:=by omega
     go_upto_region 8 with fail
     go_cut [39] (λc wq=>∃b:Bool,c=.bool b/\(b=true->0<m)/\KL w wq (w.heap.size+1) g (P+733) 2)
     case first=>
      cases m with
      | zero=>
       go_wp2
       go_meet;exact⟨false,rfl,λh=>BE,n,_,_,_,q,xs,BG,BG,t,s,l,M,V,T,H,AQ,F6 z AQ,S⟩
      | succ j=>
       go_wp2_with ((go_at_call_of 37 (Value.int IntKind.i64 3);refine(Fp g _ _ _ Ab AQ AQ AQ).mono ?_;rintro e wk ⟨x,rfl,au,aQ,z,ar⟩;obtain⟨ag,L,p0,q1,p1,J,p2,O,p3,K,X,I,Z⟩:EF wk w.heap.size:=EG;obtain⟨aa,q6,p6,q7,p7,q8,p8,q9,Y,G,F,D,E⟩:EU wk ((w.heap.size+1)) (AB n.kind) (AB n.one.op) (AE a1 n.one.args.length c1) (AE a2 n.kids.length c2) (AE R q.length Q) AG:=qb6))
       go_meet;have ao:Ac (CX (w.heap.size+1) (AE R q.length Q)) wr wk:=Ac.of_grown ar (λb f e=>by have:=f.1;simp only[CZ] at e;omega);exact⟨x==0,rfl,λ_=>Nat.succ_pos _,n,_,_,_,q,xs,BG,BG,t.keep ao,s.keep ao,Bv l ar AQ,M.imp λ_ _ _ h=>h.keep ao,V,T,H,AQ,F6 z AQ,D5 S ar⟩
     case rest=>
      clear t s l M V T H ah z S L q1 J O K I q6 q7 q8 q9 G D p0 p1 p2 p3 X Z p6 p7 p8 Y F E;obtain⟨b,rfl,aR,aO⟩:=hcut;go_upto_if 39 with fail
      go_cut [] (λwq=>KL w wq (w.heap.size+1) g (P+733) 2\/∃k j:Nat,m=j+1/\1<=k/\k<=3/\Qf w wq (w.heap.size+1) g (P+740+k*Dm j) k (ER j))
      case first=>
       cases b
       ·go_wp2
        go_meet;exact Or.inl aO
       ·obtain⟨j,rfl⟩:∃j,m=j+1:=⟨m - 1,by have:=aR rfl;omega⟩
        have ec:Dm (j+1)=3*Dm j+1000:=rfl;rw[ec] at hP;have IH:Hid (∀(d:Int) (root:Bool) (g P:Nat) (w:World),d=j->Ig w g P->P+Dm j<=100000000->Calls prog 110 #[AH g,AB d, .bool root] w λe w'=>JC e w w' g (P+Dm j) (ER j)):=aY j rfl;clear aY ec aR;obtain⟨n,av,nv,cv,q,xs,ae,ac,t,s,l,M,V,T,H,ah,z,S⟩:=aO;obtain⟨ag,L,q1,J,O,K,I,p0,p1,p2,p3,X,Z⟩:=ae;obtain⟨aa,q6,q7,q8,q9,G,D,p6,p7,p8,Y,F,E⟩:=ac
        go_wp2_with ((go_at_call_of 37 (Value.int IntKind.i64 3);refine(Fp g _ _ _ Ab AQ AQ AQ).mono ?_;rintro e wk ⟨x,rfl,au,aQ,z,ar⟩;obtain⟨ag,L,p0,q1,p1,J,p2,O,p3,K,X,I,Z⟩:EF wk w.heap.size:=EG;obtain⟨aa,q6,p6,q7,p7,q8,p8,q9,Y,G,F,D,E⟩:EU wk ((w.heap.size+1)) (AB n.kind) (AB n.one.op) av nv cv AG:=qb6))
        obtain⟨x2,wE⟩:=FP au;subst wE;have ao:Ac (CX (w.heap.size+1) cv) wc wk:=Ac.of_grown ar (λb f e=>by have:=f.1;simp only[CZ] at e;omega);have aM:=Bv l ar AQ;have ax:Dq (λb=>w.heap.size+1<b) wk cv q:=Ju aM (M.imp λ_ _ _ h=>(h.keep ao).mono λb _ f=>f.1) (λb f=>by have:=(aM.lt _ f).1;omega);have aH:∀b,b<wk.heap.size->w.heap.size+1<b->CX (w.heap.size+1) AG b:=λb _ f=>⟨f,by simp[Value.ownBlock]⟩
        have aZ:Qf w wk (w.heap.size+1) g (P+740+0*Dm j) 0 (ER j):=⟨n,_,_,_,_,q,[],[],BG,BG,((t.keep ao).mono λb _ f=>f.1).mono aH,((s.keep ao).mono λb _ f=>f.1).mono aH,ax.mono aH,⟨rfl,Or.inl ⟨rfl,rfl⟩⟩,RowOf.nil _ _,V,T,H,ah,λ_ h=>BE,rfl,F6 z AQ,D5 S ar⟩
        go_loopw [9] (λi wr=>∃af k:Nat,k+af=1+x2/\i=AB af/\Qf w wr (w.heap.size+1) g (P+740+k*Dm j) k (ER j)) (λi _=>(intOf i).toNat)
        case atStart=>exact⟨1+x2,0,AQ,by go_num,aZ⟩
        case round=>
         clear aH aZ ax aM ao t s l M V T H ah z S L q1 J O K I q6 q7 q8 q9 G D p0 p1 p2 p3 X Z p6 p7 p8 Y F E;obtain⟨af,k,bA,rfl,n,av,nv,cv,kv,q,ks,ys,ae,ac,t,s,al,l,M,V,T,H,ah,aw,aK,z,S⟩:=hrel;subst aK;by_cases aE:0<af
         ·have aV:(ks.length+1)*Dm j<=3*Dm j:=FD _ AQ
          rw[G3] at aV;obtain⟨a0,c0,aP,-⟩:=Hg l;subst aP;have aL:Hid (Lr wr w.heap.size 0 0 AG AG AG AG):=ae;have aG:Hid (Lr wr (w.heap.size+1) n.kind n.one.op av nv cv (AE a0 ks.length c0)):=ac;obtain⟨aa,D,E⟩:=ac.c5;have ag:=ae.1;have dR:Hid (Bi (CX (w.heap.size+1) (AE a0 ks.length c0)) wr av n.one.args):=t;have qU:Hid (Dp (CX (w.heap.size+1) (AE a0 ks.length c0)) wr nv n.kids):=s;have rD:Hid (Dq (CX (w.heap.size+1) (AE a0 ks.length c0)) wr cv q):=al;have iP:Hid (∀a∈ks,Jj a/\Gs a<=ER j):=aw;have wu:Hid (∀c∈q,X0 c/\c.args.length<=3):=H;have bf:Hid (RowOf 6 (N9 (CX (w.heap.size+1) (AE a0 ks.length c0)) wr) ys ks):=M;clear ae ac t s al aw H M;go_upto_region 12 with fail
          rename_i aA;have az:=MS aA;clear aA
          go_region_law (first | (refine Eh rfl _ _ 23 rfl (w.heap.size+1+1) 62 ia (.agg #[AB 0,AB 0,AG,AG,AG,AG]) 6 112 underlying23 bg iI iH iG rfl AY _ _ _ rfl (aF.alloc _) _ _ _ [AB A.net.kind,AB A.net.one.op,AE e1 A.net.one.args.length f1,AE e2 A.net.kids.length f2,AE e3 A.coils.length f3,AE e4 A.kids.length f4] rfl rfl BP (by intro u hu;simp at hu;rcases hu with rfl | rfl | rfl | rfl | rfl | rfl<;>rfl) A6 AQ Bm ?_;intro v' w6 an C aW;obtain⟨rW,rM,aB,-⟩:=Hg an;subst aB;have bM:Hid (Lr w6 w.heap.size 0 0 AG AG AG AG):=(yO.alloc _).grownO C (λe=>by have:=l.lt _ e;omega);have aD:Hid (Lr w6 (w.heap.size+1) n.kind n.one.op av nv cv (AE a0 ks.length c0)):=(jR.alloc _).grownO C (λe=>by have:=l.lt _ e;omega);clear D E;obtain⟨aa,D,E⟩:=aD.c5) | (go_simp;go_at_call 110;refine(IH _ _ g _ _ (by first | omega | (rw[IntKind.wrap_i64];omega)) Ab AQ).mono ?_;rintro e y ⟨A,u1,u2,u3,u4,rfl,h1,h2,h3,h4,bc,bj,z,aN⟩;have ab:wr.grownBy y (some g):=⟨aN.os,aN.tape,aN.output,aN.size,aN.block⟩;have H1:Hid (Bi (λb=>wr.drew.heap.size<=b) y u1 A.net.one.args):=h1;have H2:Hid (Dp (λb=>wr.drew.heap.size<=b) y u2 A.net.kids):=h2;have H3:Hid (Dq (λb=>wr.drew.heap.size<=b) y u3 A.coils):=h3;have H4:Hid (Em (λb=>wr.drew.heap.size<=b) y u4 A.kids):=h4;obtain⟨e1,f1,rfl,-⟩:=h1;obtain⟨e2,f2,rfl,-⟩:=h2;obtain⟨e3,f3,rfl,-⟩:=h3;obtain⟨e4,f4,rfl,-⟩:=h4;have aF:=Bv l ab AQ;have yO:Hid (Lr y w.heap.size 0 0 AG AG AG AG):=aL.grownO ab BA;have jR:Hid (Lr y (w.heap.size+1) n.kind n.one.op av nv cv (AE a0 ks.length c0)):=aG.grownO ab BA;clear D E;obtain⟨aa,D,E⟩:=jR.c5))
          all_goals have aA:=az.out
          all_goals go_wp2
          all_goals
           have ai:Ac (CX (w.heap.size+1) (AE a0 ks.length c0)) wr (y.alloc (.cells #[AB A.net.kind,AB A.net.one.op,AE e1 A.net.one.args.length f1,AE e2 A.net.kids.length f2,AE e3 A.coils.length f3,AE e4 A.kids.length f4] 62)):=(Ac.of_grown ab (λb f e=>by have:=f.1;simp only[CZ] at e;omega)).trans (Ac.of_below (Aa _ _));have ap:∀b,b<y.heap.size->wr.drew.heap.size<=b->CX (w.heap.size+1) (AE a0 ks.length c0) b:=λb _ f=>by
            have e:wr.drew.heap.size=wr.heap.size:=rfl;have jB:=aG.1;exact⟨AQ,λe2=>by have h1:=(l.lt _ e2).2;omega⟩
           have kE:=VE (bf.imp λ_ _ _ h=>h.keep ai) (N9.keep (w:=y) (n:=A) ⟨_,_,_,_,rfl,H1.mono ap,H2.mono ap,H3.mono ap,H4.mono ap⟩ (Ac.of_below (Aa _ _))) rfl C aW;have el:(ks++[A]).length=ks.length+1:=AU
           refine⟨⟨af - 1,ks.length+1,AQ,by go_num,n,_,_,_,AE rW (ks.length+1) rM,q,ks++[A],_,bM.set AQ,aD.set5,(PX (dR.keep ai) C aW).keep (Ac.set B7 _),(P4 (qU.keep ai) C aW).keep (Ac.set B7 _),(ep (rD.keep ai) C aW).keep (Ac.set B7 _),?_,kE.imp (λ_ _ _ h=>h.keep (Ac.set B7 _)),V,T,wu.out,ah,?_,el,?_,?_⟩,by simp[intOf];omega⟩
           ·rw[el];exact ownsRow_setCell_below an (DV _) _
           ·intro c hc
            rcases List.mem_append.1 hc with hc | hc
            ·exact iP c hc
            ·simp at hc;subst hc;exact⟨bc,bj⟩
           ·exact F6 (J8 (Fj (Bl z _) C (λk hk=>by have:=l.lt _ hk;omega)) AQ _) (by rw[G3];omega)
           ·exact Lj (K4 (DV _)) (J5 (Ea (D5 S ab) _) C (λk hk=>by have:=l.lt _ hk;omega)) _
         ·have bh:=ae
          have bi:=ac
          go_wp2
          go_meet;exact Or.inr ⟨ks.length,j,rfl,AQ,AQ,n,_,_,_,_,q,ks,ys,bh,bi,t,s,al,l,M,V,T,H,ah,aw,rfl,z,S⟩
      case rest=>
       clear aO aR;rcases hcut with hcut | hcut
       ·obtain⟨n,av,nv,cv,q,xs,ae,ac,t,s,l,M,V,T,H,ah,z,S⟩:=hcut
        obtain⟨ag,L,q1,J,O,K,I,p0,p1,p2,p3,X,Z⟩:=ae;obtain⟨aa,q6,q7,q8,q9,G,D,p6,p7,p8,Y,F,E⟩:=ac;obtain⟨a1,c1,rfl,-⟩:=id t;obtain⟨a2,c2,rfl,-⟩:=id s;obtain⟨R,Q,al,-⟩:=Hg l;subst al;by_cases a7:q.length=0
        ·obtain rfl:q=[]:=List.length_eq_zero_iff.1 a7
         have au:xs=[]:=by have:=M.1;simpa using this
         subst au;have aL:Hid (Lr wc w.heap.size 0 0 AG AG AG AG):=⟨ag,L,q1,J,O,K,I,p0,p1,p2,p3,X,Z⟩
         have aG:Hid (Lr wc (w.heap.size+1) n.kind n.one.op (AE a1 n.one.args.length c1) (AE a2 n.kids.length c2) (AE R 0 Q) AG):=⟨aa,q6,q7,q8,q9,G,D,p6,p7,p8,Y,F,E⟩
         have dR:Hid (Bi (CX (w.heap.size+1) (AE R 0 Q)) wc (AE a1 n.one.args.length c1) n.one.args):=t;have qU:Hid (Dp (CX (w.heap.size+1) (AE R 0 Q)) wc (AE a2 n.kids.length c2) n.kids):=s;have ay:wc.ownsRow (w.heap.size+1+1) 51 2 (AE R 0 Q) 0 []:=l;clear t s M l H L q1 J O K I p0 p1 p2 p3 X Z q6 q7 q8 q9 p6 p7 p8 Y;go_upto_region 14 with fail
         rename_i aA;have az:=MS aA;clear aA
         go_region_law (first | (refine Eh rfl _ _ 60 rfl (w.heap.size+1+1) 51 ie (.agg #[AB 0,AG]) 2 32 underlying60 aT lX lW lV rfl AY _ _ _ rfl (aF.alloc _) _ _ _ [AB op,AE a4 U.length c4] rfl rfl BP yDd A6 AQ Bm ?_;intro v' w6 an C aW;obtain⟨rW,rM,aB,-⟩:=Hg an;subst aB;have bM:Hid (Lr w6 w.heap.size 0 0 AG AG AG AG):=(yO.alloc _).grownO C (λe=>by have:=ay.lt _ e;omega);have aD:Hid (Lr w6 (w.heap.size+1) n.kind n.one.op (AE a1 n.one.args.length c1) (AE a2 n.kids.length c2) (AE R 0 Q) AG):=(jR.alloc _).grownO C (λe=>by have:=ay.lt _ e;omega);clear G F;obtain⟨aa,G,F⟩:=aD.c4) | (go_simp;go_at_call 40;refine(Pg g _ _ Ab AQ).mono ?_;rintro e y ⟨op,v,U,rfl,aS,hv,hs,hl,z,aN⟩;have ab:wc.grownBy y (some g):=⟨aN.os,aN.tape,aN.output,aN.size,aN.block⟩;obtain⟨a4,c4,rfl,-⟩:=id hv;have aF:=Bv ay ab AQ;have yO:Hid (Lr y w.heap.size 0 0 AG AG AG AG):=aL.grownO ab BA;have jR:Hid (Lr y (w.heap.size+1) n.kind n.one.op (AE a1 n.one.args.length c1) (AE a2 n.kids.length c2) (AE R 0 Q) AG):=aG.grownO ab BA;clear G F;obtain⟨aa,G,F⟩:=jR.c4))
         all_goals
          clear G F D E;obtain⟨aa,q6,q7,q8,q9,G,D,p6,p7,p8,Y,F,E⟩:=aD.out;obtain⟨ag,L,q1,J,O,K,I,p0,p1,p2,p3,X,Z⟩:=bM.out
         all_goals have aA:=az.out
         all_goals go_wp2
         all_goals
          have ai:Ac (CX (w.heap.size+1) (AE R 0 Q)) wc (y.alloc (.cells #[AB op,AE a4 U.length c4] 51)):=(Ac.of_grown ab (λb f e=>by have:=f.1;simp only[CZ] at e;omega)).trans (Ac.of_below (Aa _ _));have ap:∀b,b<y.heap.size->wc.drew.heap.size - 1<b->CX (w.heap.size+1) (AE R 0 Q) b:=λb _ f=>by
           have e:wc.drew.heap.size=wc.heap.size:=rfl;have jB:=aG.1;exact⟨AQ,λe2=>by have h1:=(ay.lt _ e2).2;omega⟩
          have kE:=TM (RowOf.nil 2 (Nw (CX (w.heap.size+1) (AE R 0 Q)) _)) (Nw.keep (w:=y) (e:=⟨op,U⟩) ⟨_,rfl,(Ew hv).mono ap⟩ (Ac.of_below (Aa _ _))) rfl C aW;have aj:∀b,b<w6.heap.size->CX (w.heap.size+1) (AE rW 1 rM) b->w.heap.size<b/\b≠w.heap.size+1:=λb _ f=>by have:=f.1;omega
          have ax:Dq (λb=>w.heap.size<b/\b≠w.heap.size+1) w6 (AE rW 1 rM) [⟨op,U⟩]:=Ju (es:=[⟨op,U⟩]) an (kE.imp λ_ _ _ h=>h.mono aj) (λb f=>by have:=(an.lt _ f).1;omega);have a5:=(PX (dR.keep ai) C aW).mono aj;have bb:=(P4 (qU.keep ai) C aW).mono aj;have aE:∀(W:World) (b:Nat),b<W.heap.size->w.heap.size<b/\b≠w.heap.size+1->w.heap.size<=b:=λ_ b _ f=>by omega
          have ak:∀c∈[(⟨op,U⟩:Stil.Elem)],X0 c/\c.args.length<=3:=by
           intro c hc;simp at hc;subst hc;exact⟨⟨aS,hs,by show U.length<=100000;omega⟩,hl⟩
          have aJ:=M8 (ks:=[]) (N:=0) T ak (λ_ h=>BE);refine bodyPost_ret (by simp[results,results110,go_sem,L,q1,J,O,K,I];rfl) rfl ?_;refine⟨⟨n,[⟨op,U⟩],[]⟩,_,_,_,_,rfl,Bi.mono (a5.keep BJ) (aE _),Dp.mono (bb.keep BJ) (aE _),Dq.mono (ax.keep BJ) (aE _),Qr _ _,QH (N:=0) V ak (λ_ h=>BE),by simp at aJ;omega,?_,?_⟩
          ·have h6:=Fj (Bl z (.cells #[AB op,AE a4 U.length c4] 51)) C (λk hk=>by have:=ay.lt _ hk;omega)
           exact A2
          ·have h6:w.grownBy w6 (some g):=J5 (Ea (D5 S ab) _) C (λk hk=>by have:=ay.lt _ hk;omega)
           exact A0
        ·have bk:((q.length:Int)==0)=false:=by rw[CS];omega
         go_wp2
         have ax:Dq (λb=>w.heap.size<b) wc (AE R q.length Q) q:=Ju l (M.imp λ_ _ _ h=>h.mono λb _ f=>by have:=f.1;omega) (λb f=>by have:=(l.lt _ f).1;omega);have aj:∀b,b<wc.heap.size->CX (w.heap.size+1) (AE R q.length Q) b->w.heap.size<b:=λb _ f=>by have:=f.1;omega
         have aJ:=M8 (ks:=[]) (N:=0) T H (λ_ h=>BE);refine bodyPost_ret (by simp[results,results110,go_sem,L,q1,J,O,K,I];rfl) rfl ?_;exact⟨⟨n,q,[]⟩,_,_,_,_,rfl,Bi.mono ((t.mono aj).keep BJ) FA,Dp.mono ((s.mono aj).keep BJ) FA,Dq.mono (ax.keep BJ) FA,Qr _ _,QH (N:=0) V H (λ_ h=>BE),by simp at aJ;omega,A2,A0⟩
       ·obtain⟨k,j,rfl,bw,aX,n,av,nv,cv,kv,q,ks,ys,ae,ac,t,s,al,l,M,V,T,H,ah,aw,aK,z,S⟩:=hcut
        obtain⟨ag,L,q1,J,O,K,I,p0,p1,p2,p3,X,Z⟩:=ae;obtain⟨aa,q6,q7,q8,q9,G,D,p6,p7,p8,Y,F,E⟩:=ac;subst aK;have aV:ks.length*Dm j<=3*Dm j:=FD _ aX;have bu:ks.length*ER j<=3*ER j:=FD _ aX;have ec:Dm (j+1)=3*Dm j+1000:=rfl;have en:ER (j+1)=3*ER j+200:=rfl;have bv:((ks.length:Int)==0)=false:=by rw[CS];omega
        obtain⟨a1,c1,rfl,-⟩:=id t;obtain⟨a2,c2,rfl,-⟩:=id s;obtain⟨R,Q,rfl,-⟩:=id al;obtain⟨a0,c0,aP,-⟩:=Hg l;subst aP;cases bk:((q.length:Int)==0);all_goals go_wp2
        all_goals
         have bn:Em (λb=>w.heap.size<b) wc (AE a0 ks.length c0) ks:=Fq l (M.imp λ_ _ _ h=>h.mono λb _ f=>by have:=f.1;omega) (λb f=>by have:=(l.lt _ f).1;omega);have aj:∀b,b<wc.heap.size->CX (w.heap.size+1) (AE a0 ks.length c0) b->w.heap.size<b:=λb _ f=>by have:=f.1;omega
         have aJ:=M8 T H aw;refine bodyPost_ret (by simp[results,results110,go_sem,L,q1,J,O,K,I];rfl) rfl ?_;exact⟨⟨n,q,ks⟩,_,_,_,_,rfl,Bi.mono ((t.mono aj).keep BJ) FA,Dp.mono ((s.mono aj).keep BJ) FA,Dq.mono ((al.mono aj).keep BJ) FA,Em.mono (bn.keep BJ) FA,QH V H aw,AQ,A2,A0⟩
theorem eA:∀(m:Nat) (d:Int) (root:Bool) (g P:Nat) (w:World),m<=100->d=m->Ig w g P->P+Dm m<=100000000->Calls prog 110 #[AH g,AB d, .bool root] w λe w'=>JC e w w' g (P+Dm m) (ER m)
 | 0,d,root,g,P,w,a,hd,b,c=>YZ 0 (λf h=>absurd h AQ) d root g P w hd a b c
 | m+1,d,root,g,P,w,a,hd,b,c=>YZ (m+1) (λf h o r n j w' l q i=>by
   have e:f=m:=AQ
   subst e
   exact eA f o r n j w' AQ l q i) d root g P w hd a b c
