import Derived.Test.YtmnnkedjoecehaaGreatDoorG5
set_option linter.defProp false
set_option maxHeartbeats 20000000
set_option maxRecDepth 100000
namespace Go.Proofs.YtmnnkedjoecehaaGreatDoor
open Tryz Stil Go.RowKit Go.Sort Go.BigFrame
variable {B N:Nat}{av cv kv nv u v v':Value}{k op:Int}{w':World}
def LO:(prog.info? 46).map (λi=>(i.zero,i.size,i.bytes))=some (some (.agg #[AB 0,AG]),2,32):=AX
def KP:(prog.info? 62).map (λi=>(i.zero,i.size,i.bytes))=some (some (.agg #[AB 0,AB 0,AG,AG,AG,AG]),6,112):=AX
def JK (e:Ending)(w w':World)(g Q N:Nat):Prop:=∃(a:Stil.B9) (av nv cv kv:Value),e=.returned (.agg #[AB a.net.kind,AB a.net.one.op,av,nv,cv,kv])/\Bj (λb=>w.heap.size<=b) w' av a.net.one.args/\Dt (λb=>w.heap.size<=b) w' nv a.net.kids/\Dn (λb=>w.heap.size<=b) w' cv a.coils/\Fe (λb=>w.heap.size<=b) w' kv a.kids/\Jw a/\Gt a<=N/\Ij w' g Q/\w.grownBy w' (some g)
def D1:Nat->Nat
 | 0=>1000
 | m+1=>3*D1 m+1000
def EX:Nat->Nat
 | 0=>200
 | m+1=>3*EX m+200
theorem ir (m:Nat):1000<=D1 m:=by cases m<;>simp[D1]
theorem iq (m:Nat):200<=EX m:=by cases m<;>simp[EX]
def Nr (w:World)(b:Nat)(k op:Int)(av nv cv kv:Value):Prop:=b<w.heap.size/\w.cell? ⟨b,0,none⟩=some (AB k)/\w.cell? ⟨b,1,none⟩=some (AB op)/\w.cell? ⟨b,2,none⟩=some av/\w.cell? ⟨b,3,none⟩=some nv/\w.cell? ⟨b,4,none⟩=some cv/\w.cell? ⟨b,5,none⟩=some kv/\w.frozen? ⟨b,0,none⟩=false/\w.frozen? ⟨b,1,none⟩=false/\w.frozen? ⟨b,2,none⟩=false/\w.frozen? ⟨b,3,none⟩=false/\w.frozen? ⟨b,4,none⟩=false/\w.frozen? ⟨b,5,none⟩=false
def BG {W:World}{b:Nat}(h:Nr W b k op av nv cv kv:=by refine⟨BR,?_,?_,?_,?_,?_,?_,?_,?_,?_,?_,?_,?_⟩<;>first | (exact cfA;done) | (repeat (first | with_reducible assumption | with_reducible refine O0.trans ?_ | with_reducible refine Ld.trans ?_ | with_reducible refine(Ip BR).trans ?_ | (simp[go_sem];done)))):Nr W b k op av nv cv kv:=h
def Nr.grownO {w:World}{b:Nat}{r:Option Nat}(h:Nr w b k op av nv cv kv)(hg:w.grownBy w' r)(hr:r≠some b):Nr w' b k op av nv cv kv:=by
 obtain⟨d,f⟩:=h;have e:w'.heap[b]?=w.heap[b]?:=hg.block b d (λx=>hr x.symm);have c:∀o,w'.cell? (AK b o)=w.cell? (AK b o):=λo=>by unfold World.cell?;rw[e]
 have a:∀o,w'.frozen? (AK b o)=w.frozen? (AK b o):=λo=>by unfold World.frozen?;rw[e]
 refine⟨CB d hg.size,?_⟩;rw[c,c,c,c,c,c,a,a,a,a,a,a];exact f
def QC {w:World}{c:List Stil.CC}(h:Bj (CX B v) w u c)(hg:w.grownBy w' v.ownBlock)(e:v'.ownBlock=v.ownBlock\/v'.ownBlock=some w.heap.size):Bj (CX B v') w' u c:=by
 have f:Bj (λb=>CX B v b/\CX B v' b) w u c:=h.mono λb d a=>⟨a,Zm e b d a⟩
 exact(f.keep (F7 (Zn (B:=B) hg) λb _ a=>a.1)).mono λb _ a=>a.2
def P0 {w:World}{ns:List Stil.B8}(h:Dt (CX B v) w u ns)(hg:w.grownBy w' v.ownBlock)(d:v'.ownBlock=v.ownBlock\/v'.ownBlock=some w.heap.size):Dt (CX B v') w' u ns:=by
 have e:Dt (λb=>CX B v b/\CX B v' b) w u ns:=h.mono λb c a=>⟨a,Zm d b c a⟩
 exact(e.keep (F7 (Zn (B:=B) hg) λb _ a=>a.1)).mono λb _ a=>a.2
def ff {w:World}{es:List Stil.Elem}(h:Dn (CX B v) w u es)(hg:w.grownBy w' v.ownBlock)(d:v'.ownBlock=v.ownBlock\/v'.ownBlock=some w.heap.size):Dn (CX B v') w' u es:=by
 have e:Dn (λb=>CX B v b/\CX B v' b) w u es:=h.mono λb c a=>⟨a,Zm d b c a⟩
 exact(e.keep (F7 (Zn (B:=B) hg) λb _ a=>a.1)).mono λb _ a=>a.2
def Yl:Ll ⟨0,⟨0,[]⟩,[]⟩:=Hl AY AY (λ_ h=>BE) AU
def KV (w0 a:World)(B:Nat)(g Q k:Nat):Prop:=∃(n:Stil.B8) (av nv cv:Value) (b:List Stil.Elem) (d:List Value),
 Nr a w0.heap.size 0 0 AG AG AG AG/\Nr a B n.kind n.one.op av nv cv AG/\Bj (CX B cv) a av n.one.args/\Dt (CX B cv) a nv n.kids/\
 a.ownsRow (B+1) 46 2 cv b.length d/\RowOf 2 (N8 (CX B cv) a) d b/\Ll n/\G9 n<=130/\(∀c∈b,Yh c/\c.args.length<=3)/\b.length<=k/\Ij a g Q/\w0.grownBy a (some g)
def Nr.set {w:World}{b a o:Nat}(h:Nr w b k op av nv cv kv)(e:b≠a):Nr (w.setCell (AK a o) v) b k op av nv cv kv:=by
 obtain⟨d,c⟩:=h;refine⟨by simpa using d,?_⟩;simp only[F9 e,Ld];exact c
def Nr.set5 {w:World}{b:Nat}(h:Nr w b k op av nv cv kv):Nr (w.setCell (AK b 5) v) b k op av nv cv v:=by
 obtain⟨j,i,c,a,g,d,e,f⟩:=h;refine⟨by simpa using j,?_⟩;rw[Hm AY,Hm AY,Hm AY,Hm AY,Hm AY,Nk e];simp only[Ld];exact⟨i,c,a,g,d,by first | rfl | trivial,f⟩
def Nr.alloc {w:World}{b:Nat}(h:Nr w b k op av nv cv kv)(o:Obj):Nr (w.alloc o) b k op av nv cv kv:=h.grownO (grown_below (Aa w o) none) AU
def Nr.c4 {w:World}{b:Nat}(h:Nr w b k op av nv cv kv):b<w.heap.size/\w.cell? (AK b 4)=some cv/\w.frozen? (AK b 4)=false:=by
 obtain⟨d,o,j,e,n,a,l,f,p,g,i,c,m⟩:=h;exact⟨d,a,c⟩
def Nr.c5 {w:World}{b:Nat}(h:Nr w b k op av nv cv kv):b<w.heap.size/\w.cell? (AK b 5)=some kv/\w.frozen? (AK b 5)=false:=by
 obtain⟨d,n,j,e,m,l,a,f,p,g,i,o,c⟩:=h;exact⟨d,a,c⟩
theorem MW {α:Type}(f:α->Nat)(N:Nat):∀l:List α,(∀x∈l,f x<=N)->(l.map f).sum<=l.length*N
 | [],_=>by simp
 | y::r,h=>by
  have b:=h y AU;have a:=MW f N r (λx hx=>h x BQ);simp only[CQ,DO,CH,G4];omega
def RD (w0 b:World)(B g Q k N:Nat):Prop:=∃(n:Stil.B8) (av nv cv kv:Value) (e:List Stil.Elem) (d:List Stil.B9) (f:List Value),
 Nr b w0.heap.size 0 0 AG AG AG AG/\Nr b B n.kind n.one.op av nv cv kv/\Bj (CX B kv) b av n.one.args/\Dt (CX B kv) b nv n.kids/\Dn (CX B kv) b cv e/\
 b.ownsRow (B+1) 62 6 kv d.length f/\RowOf 6 (Qb (CX B kv) b) f d/\Ll n/\G9 n<=130/\(∀c∈e,Yh c/\c.args.length<=3)/\e.length<=2/\(∀a∈d,Jw a/\Gt a<=N)/\d.length=k/\Ij b g Q/\w0.grownBy b (some g)
def NG {n:Stil.B8}{cs:List Stil.Elem}{ks:List Stil.B9}(h1:G9 n<=130)(f:∀c∈cs,Yh c/\c.args.length<=3)(d:∀a∈ks,Jw a/\Gt a<=N):Gt ⟨n,cs,ks⟩<=130+4*cs.length+ks.length+ks.length*N:=by
 rw[Gm];have e:Gu cs=cs.length+(cs.map Qd).sum:=rfl;have a:=MW Qd 3 cs (λc h=>(f c h).2);have b:=MW Gt N ks (λa g=>(d a g).2);omega
def QF {n:Stil.B8}{cs:List Stil.Elem}{ks:List Stil.B9}(h1:Ll n)(d:∀c∈cs,Yh c/\c.args.length<=3)(b:∀a∈ks,Jw a/\Gt a<=N):Jw ⟨n,cs,ks⟩:=(Hr _ _ _).2 ⟨h1,λc f=>(d c f).1,λa e=>(b a e).1⟩
def RO {p:Prop}(h:p):Hid p:=h
theorem ZU (m:Nat)(ih:∀(j:Nat),m=j+1->∀(d:Int) (root:Bool) (g P:Nat) (w:World),d=j->Ij w g P->P+D1 j<=100000000->Calls prog 49 #[AH g,AB d, .bool root] w λe w'=>JK e w w' g (P+D1 j) (EX j))
  (d:Int) (root:Bool) (g P:Nat) (w:World) (hd:d=m) (hm:m<=100) (hr:Ij w g P) (hP:P+D1 m<=100000000):
  Calls prog 49 #[AH g,AB d, .bool root] w λe w'=>JK e w w' g (P+D1 m) (EX m):=by
 subst hd;have hg:=V8 hr;have aY:Hid (∀(j:Nat),m=j+1->∀(d:Int) (root:Bool) (g P:Nat) (w:World),d=j->Ij w g P->P+D1 j<=100000000->Calls prog 49 #[AH g,AB d, .bool root] w λe w'=>JK e w w' g (P+D1 j) (EX j)):=ih;clear ih;have bw:=ir m;have bs:=iq m;obtain⟨ie,aT,mF,mD,lZ⟩:=info_parts LO;obtain⟨ia,bf,iJ,iI,iH⟩:=info_parts KP;go_enter func49,ntmps49;go_upto_region 2 with fail
 go_cut [16] (λc wq=>∃b:Bool,c=.bool b/\Ij wq g (P+1)/\w.grownBy wq (some g)/\Nr wq w.heap.size 0 0 AG AG AG AG/\Nr wq (w.heap.size+1) 0 0 AG AG AG AG)
 case first=>
  cases root
  ·go_wp2_with ((go_at_call_of 24 (Value.int IntKind.i64 3);refine(Fv g _ _ _ Av AQ AQ AQ).mono ?_;rintro e wa ⟨x,rfl,ap,aN,z,bn⟩;obtain⟨ag,J,p0,q1,p1,I,p2,M,p3,O,p4,L,p5⟩:EG wa w.heap.size:=EJ;obtain⟨aa,X,p6,q7,p7,q8,Z,q9,p9,F,H,E,D⟩:EG wa ((w.heap.size+1)):=EJ))
   go_meet;exact⟨decide (0<x),rfl,A3,A2,BG,BG⟩
  ·go_wp2
   go_meet;exact⟨true,rfl,A3,A2,BG,BG⟩
 case rest=>
  obtain⟨b,rfl,z,T,⟨ag,J,q1,I,M,O,L,p0,p1,p2,p3,p4,p5⟩,⟨aa,X,q7,q8,q9,F,E,p6,p7,Z,p9,H,D⟩⟩:=hcut;have dK:FZ 2=130:=rfl;have bp:E2 2=650:=rfl;go_upto_if 16 with fail
  go_cut [] (λwq=>KV w wq (w.heap.size+1) g (P+651) 0)
  case first=>
   go_wp2_with ((go_at_call 78;refine(j7 2 _ g _ _ AQ rfl Av AQ).mono ?_;rintro e wb ⟨n1,av,nv,rfl,t,s,a9,bq,z,bo⟩;obtain⟨a1,c1,rfl,-⟩:=id t;obtain⟨a2,c2,rfl,-⟩:=id s;obtain⟨ag,J,p0,q1,p1,I,p2,M,p3,O,p4,L,p5⟩:EG wb w.heap.size:=EJ;obtain⟨aa,X,p6,q7,p7,q8,Z,q9,p9,F,H,E,D⟩:EG wb ((w.heap.size+1)):=EJ))
   ·go_meet
    have aW:∀x,x<wb.heap.size->wc.heap.size<=x->w.heap.size+1<x:=λx _ h=>by omega
    exact⟨n1,_,_,_,[],[],BG,(show Nr _ (w.heap.size+1) n1.kind n1.one.op (AE a1 n1.one.args.length c1) (AE a2 n1.kids.length c2) AG AG from BG),((t.mono aW).keep (P:=λx=>w.heap.size+1<x) BJ).mono (λx _ h=>⟨h,by simp[Value.ownBlock]⟩),((s.mono aW).keep (P:=λx=>w.heap.size+1<x) BJ).mono (λx _ h=>⟨h,by simp[Value.ownBlock]⟩),⟨rfl,Or.inl ⟨rfl,rfl⟩⟩,RowOf.nil _ _,a9,AQ,λ_ h=>BE,AU,A3,A2⟩
   ·go_meet
    exact⟨⟨0,⟨0,[]⟩,[]⟩,_,_,_,[],[],BG,(show Nr _ (w.heap.size+1) 0 0 AG AG AG AG from BG),Tt _ _,Jk _ _,⟨rfl,Or.inl ⟨rfl,rfl⟩⟩,RowOf.nil _ _,Yl,by rw[Fa];simp,λ_ h=>BE,AU,A3,A2⟩
  case rest=>
   clear J q1 I M O L X q7 q8 q9 F E p0 p1 p2 p3 p4 p5 p6 p7 Z p9 H D z T
   go_wp2_with (go_at_call 24;obtain⟨n,av,nv,cv,q,xs,ac,ae,t,s,l,K,U,V,G,ah,z,T⟩:=hcut;refine(Fv g _ _ _ z AQ AQ AQ).mono ?_;rintro e w3 ⟨x,rfl,ap,aN,bP,aJ⟩)
   obtain⟨x2,wP⟩:=FW ap;subst wP;have a6:x2<=2:=AQ
   have aZ:KV w w3 (w.heap.size+1) g (P+652+40*(2 - x2)) (2 - x2):=by
    refine⟨n,av,nv,cv,q,xs,ac.grownO aJ BD,ae.grownO aJ BD,?_,?_,Cb l aJ AQ,?_,U,V,G,AQ,Gl bP AQ,Ed T aJ⟩
    ·exact t.keep (Ac.of_grown aJ (λb f e=>by have:=f.1;simp only[C0] at e;omega))
    ·exact s.keep (Ac.of_grown aJ (λb f e=>by have:=f.1;simp only[C0] at e;omega))
    ·exact K.imp λ_ _ _ h=>h.keep (Ac.of_grown aJ (λb f e=>by have:=f.1;simp only[C0] at e;omega))
   clear ac ae t s l K U V G ah z T bP;go_loopw [8] (λi wr=>∃af:Nat,af<=2/\i=AB af/\KV w wr (w.heap.size+1) g (P+652+40*(2 - af)) (2 - af)) (λi _=>(intOf i).toNat)
   case atStart=>exact⟨x2,a6,rfl,aZ⟩
   case round=>
    obtain⟨af,hj,rfl,n,av,nv,cv,q,xs,ac,ae,t,s,l,K,U,V,G,ah,z,T⟩:=hrel;obtain⟨ag,J,q1,I,M,O,L,p0,p1,p2,p3,p4,p5⟩:=ac;obtain⟨aa,X,q7,q8,q9,F,E,p6,p7,Z,p9,H,D⟩:=ae;obtain⟨a1,c1,rfl,-⟩:=id t;obtain⟨a2,c2,rfl,-⟩:=id s;obtain⟨Q,R,ak,-⟩:=Hq l;subst ak;by_cases ay:0<af
    ·go_upto_region 7 with fail
     rename_i aA;have az:=RO aA;clear aA
     go_region_law (first | (refine Ec rfl _ _ 60 rfl (w.heap.size+1+1) 46 ie (.agg #[AB 0,AG]) 2 32 underlying60 aT mF mD lZ rfl AY _ _ _ rfl (aD.alloc _) _ _ _ [AB op,AE a4 S.length c4] rfl rfl BS yGf A6 AQ B0 ?_;intro v' w6 al C aV;obtain⟨vP,uY,aF,-⟩:=Hq al;subst aF;have a5:Nr (y.alloc (.cells #[AB op,AE a4 S.length c4] 46)) w.heap.size 0 0 AG AG AG AG:=BG;have bg:Nr (y.alloc (.cells #[AB op,AE a4 S.length c4] 46)) (w.heap.size+1) n.kind n.one.op (AE a1 n.one.args.length c1) (AE a2 n.kids.length c2) (AE Q q.length R) AG:=BG;clear J q1 I M O L X q7 q8 q9 F E p0 p1 p2 p3 p4 p5 p6 p7 Z p9 H D;obtain⟨ag,J,q1,I,M,O,L,p0,p1,p2,p3,p4,p5⟩:=a5.grownO C (λe=>by have:=l.lt _ e;omega);obtain⟨aa,X,q7,q8,q9,F,E,p6,p7,Z,p9,H,D⟩:=bg.grownO C (λe=>by have:=l.lt _ e;omega)) | (go_simp;go_at_call 47;refine(Tq g _ _ Av AQ).mono ?_;rintro e y ⟨op,v,S,rfl,aI,hv,hs,hl,z,Y⟩;have ab:wr.grownBy y (some g):=⟨Y.os,Y.tape,Y.output,Y.size,Y.block⟩;obtain⟨a4,c4,rfl,-⟩:=id hv;have aD:=Cb l ab AQ;obtain⟨ag,J,p0,q1,p1,I,p2,M,p3,O,p4,L,p5⟩:EG y w.heap.size:=EJ;obtain⟨aa,X,p6,q7,p7,q8,Z,q9,p9,F,H,E,D⟩:Ek y ((w.heap.size+1)) (AB n.kind) (AB n.one.op) (AE a1 n.one.args.length c1) (AE a2 n.kids.length c2) (AE Q q.length R) AG:=qb6))
     all_goals have aA:=az.out
     all_goals go_wp2
     all_goals
      have ai:Ac (CX (w.heap.size+1) (AE Q q.length R)) wr (y.alloc (.cells #[AB op,AE a4 S.length c4] 46)):=(Ac.of_grown ab (λb f e=>by have:=f.1;simp only[C0] at e;omega)).trans (Ac.of_below (Aa _ _));have ao:∀b,b<y.heap.size->wr.drew.heap.size - 1<b->CX (w.heap.size+1) (AE Q q.length R) b:=λb _ f=>by
       have e:wr.drew.heap.size=wr.heap.size:=rfl;exact⟨AQ,λe2=>by have h1:=(l.lt _ e2).2;omega⟩
      have kH:=UQ (K.imp λ_ _ _ h=>h.keep ai) (N8.keep (w:=y) (e:=⟨op,S⟩) ⟨_,rfl,(Fg hv).mono ao⟩ (Ac.of_below (Aa _ _))) rfl C aV;have el:(q++[(⟨op,S⟩:Stil.Elem)]).length=q.length+1:=AU
      refine⟨⟨af - 1,AQ,by go_num,n,_,_,AE vP (q.length+1) uY,q++[⟨op,S⟩],_,BG,BG,(QC (t.keep ai) C aV).keep (Ac.set B7 _),(P0 (s.keep ai) C aV).keep (Ac.set B7 _),?_,kH.imp (λ_ _ _ h=>h.keep (Ac.set B7 _)),U,V,?_,?_,?_,?_⟩,by simp[intOf];omega⟩
      ·rw[el];exact ownsRow_setCell_below al (DV _) _
      ·intro c hc
       rcases List.mem_append.1 hc with hc | hc
       ·exact G c hc
       ·simp at hc;subst hc;exact⟨⟨aI,hs,by show S.length<=100000;omega⟩,hl⟩
      ·rw[el];omega
      ·exact Gl (Ku (Fh (Ci z _) C (λk hk=>by have:=l.lt _ hk;omega)) AQ _) AQ
      ·exact Oa (LC (DV _)) (J8 (Ei (Ed T ab) _) C (λk hk=>by have:=l.lt _ hk;omega)) _
    ·obtain rfl:af=0:=by omega
     go_upto_region 8 with fail
     go_cut [39] (λc wq=>∃b:Bool,c=.bool b/\(b=true->0<m)/\KV w wq (w.heap.size+1) g (P+733) 2)
     case first=>
      cases m with
      | zero=>
       go_wp2
       go_meet;exact⟨false,rfl,λh=>BE,n,_,_,_,q,xs,BG,BG,t,s,l,K,U,V,G,AQ,Gl z AQ,T⟩
      | succ j=>
       go_wp2_with ((go_at_call_of 24 (Value.int IntKind.i64 3);refine(Fv g _ _ _ Av AQ AQ AQ).mono ?_;rintro e wk ⟨x,rfl,ap,aN,z,ar⟩;obtain⟨ag,J,p0,q1,p1,I,p2,M,p3,O,p4,L,p5⟩:EG wk w.heap.size:=EJ;obtain⟨aa,X,p6,q7,p7,q8,Z,q9,p9,F,H,E,D⟩:Ek wk ((w.heap.size+1)) (AB n.kind) (AB n.one.op) (AE a1 n.one.args.length c1) (AE a2 n.kids.length c2) (AE Q q.length R) AG:=qb6))
       go_meet;have an:Ac (CX (w.heap.size+1) (AE Q q.length R)) wr wk:=Ac.of_grown ar (λb f e=>by have:=f.1;simp only[C0] at e;omega);exact⟨x==0,rfl,λ_=>Nat.succ_pos _,n,_,_,_,q,xs,BG,BG,t.keep an,s.keep an,Cb l ar AQ,K.imp λ_ _ _ h=>h.keep an,U,V,G,AQ,Gl z AQ,Ed T ar⟩
     case rest=>
      clear t s l K U V G ah z T J q1 I M O L X q7 q8 q9 F E p0 p1 p2 p3 p4 p5 p6 p7 Z p9 H D;obtain⟨b,rfl,aP,aM⟩:=hcut;go_upto_if 39 with fail
      go_cut [] (λwq=>KV w wq (w.heap.size+1) g (P+733) 2\/∃k j:Nat,m=j+1/\1<=k/\k<=3/\RD w wq (w.heap.size+1) g (P+740+k*D1 j) k (EX j))
      case first=>
       cases b
       ·go_wp2
        go_meet;exact Or.inl aM
       ·obtain⟨j,rfl⟩:∃j,m=j+1:=⟨m - 1,by have:=aP rfl;omega⟩
        have ec:D1 (j+1)=3*D1 j+1000:=rfl;rw[ec] at hP;have IH:Hid (∀(d:Int) (root:Bool) (g P:Nat) (w:World),d=j->Ij w g P->P+D1 j<=100000000->Calls prog 49 #[AH g,AB d, .bool root] w λe w'=>JK e w w' g (P+D1 j) (EX j)):=aY j rfl;clear aY ec aP;obtain⟨n,av,nv,cv,q,xs,ac,ae,t,s,l,K,U,V,G,ah,z,T⟩:=aM;obtain⟨ag,J,q1,I,M,O,L,p0,p1,p2,p3,p4,p5⟩:=ac;obtain⟨aa,X,q7,q8,q9,F,E,p6,p7,Z,p9,H,D⟩:=ae
        go_wp2_with ((go_at_call_of 24 (Value.int IntKind.i64 3);refine(Fv g _ _ _ Av AQ AQ AQ).mono ?_;rintro e wk ⟨x,rfl,ap,aN,z,ar⟩;obtain⟨ag,J,p0,q1,p1,I,p2,M,p3,O,p4,L,p5⟩:EG wk w.heap.size:=EJ;obtain⟨aa,X,p6,q7,p7,q8,Z,q9,p9,F,H,E,D⟩:Ek wk ((w.heap.size+1)) (AB n.kind) (AB n.one.op) av nv cv AG:=qb6))
        obtain⟨x2,wP⟩:=FW ap;subst wP;have an:Ac (CX (w.heap.size+1) cv) wc wk:=Ac.of_grown ar (λb f e=>by have:=f.1;simp only[C0] at e;omega);have aQ:=Cb l ar AQ;have au:Dn (λb=>w.heap.size+1<b) wk cv q:=Jr aQ (K.imp λ_ _ _ h=>(h.keep an).mono λb _ f=>f.1) (λb f=>by have:=(aQ.lt _ f).1;omega);have aH:∀b,b<wk.heap.size->w.heap.size+1<b->CX (w.heap.size+1) AG b:=λb _ f=>⟨f,by simp[Value.ownBlock]⟩
        have aU:RD w wk (w.heap.size+1) g (P+740+0*D1 j) 0 (EX j):=⟨n,_,_,_,_,q,[],[],BG,BG,((t.keep an).mono λb _ f=>f.1).mono aH,((s.keep an).mono λb _ f=>f.1).mono aH,au.mono aH,⟨rfl,Or.inl ⟨rfl,rfl⟩⟩,RowOf.nil _ _,U,V,G,ah,λ_ h=>BE,rfl,Gl z AQ,Ed T ar⟩
        go_loopw [9] (λi wr=>∃af k:Nat,k+af=1+x2/\i=AB af/\RD w wr (w.heap.size+1) g (P+740+k*D1 j) k (EX j)) (λi _=>(intOf i).toNat)
        case atStart=>exact⟨1+x2,0,AQ,by go_num,aU⟩
        case round=>
         clear aH aU au aQ an t s l K U V G ah z T J q1 I M O L X q7 q8 q9 F E p0 p1 p2 p3 p4 p5 p6 p7 Z p9 H D;obtain⟨af,k,bu,rfl,n,av,nv,cv,kv,q,ks,ys,ac,ae,t,s,ak,l,K,U,V,G,ah,ax,aR,z,T⟩:=hrel;subst aR;by_cases ay:0<af
         ·have aX:(ks.length+1)*D1 j<=3*D1 j:=E6 _ AQ
          rw[G4] at aX;obtain⟨a0,c0,aL,-⟩:=Hq l;subst aL;have aO:Hid (Nr wr w.heap.size 0 0 AG AG AG AG):=ac;have aE:Hid (Nr wr (w.heap.size+1) n.kind n.one.op av nv cv (AE a0 ks.length c0)):=ae;obtain⟨aa,E,D⟩:=ae.c5;have ag:=ac.1;have eY:Hid (Bj (CX (w.heap.size+1) (AE a0 ks.length c0)) wr av n.one.args):=t;have qU:Hid (Dt (CX (w.heap.size+1) (AE a0 ks.length c0)) wr nv n.kids):=s;have rC:Hid (Dn (CX (w.heap.size+1) (AE a0 ks.length c0)) wr cv q):=ak;have kT:Hid (∀a∈ks,Jw a/\Gt a<=EX j):=ax;have xu:Hid (∀c∈q,Yh c/\c.args.length<=3):=G;have bj:Hid (RowOf 6 (Qb (CX (w.heap.size+1) (AE a0 ks.length c0)) wr) ys ks):=K;clear ac ae t s ak ax G K;go_upto_region 12 with fail
          rename_i aA;have az:=RO aA;clear aA
          go_region_law (first | (refine Ec rfl _ _ 23 rfl (w.heap.size+1+1) 62 ia (.agg #[AB 0,AB 0,AG,AG,AG,AG]) 6 112 underlying23 bf iJ iI iH rfl AY _ _ _ rfl (aD.alloc _) _ _ _ [AB A.net.kind,AB A.net.one.op,AE e1 A.net.one.args.length f1,AE e2 A.net.kids.length f2,AE e3 A.coils.length f3,AE e4 A.kids.length f4] rfl rfl BS (by intro u hu;simp at hu;rcases hu with rfl | rfl | rfl | rfl | rfl | rfl<;>rfl) A6 AQ B0 ?_;intro v' w6 al C aV;obtain⟨vP,uY,aF,-⟩:=Hq al;subst aF;have bK:Hid (Nr w6 w.heap.size 0 0 AG AG AG AG):=(zA.alloc _).grownO C (λe=>by have:=l.lt _ e;omega);have aB:Hid (Nr w6 (w.heap.size+1) n.kind n.one.op av nv cv (AE a0 ks.length c0)):=(jV.alloc _).grownO C (λe=>by have:=l.lt _ e;omega);clear E D;obtain⟨aa,E,D⟩:=aB.c5) | (go_simp;go_at_call 49;refine(IH _ _ g _ _ (by first | omega | (rw[IntKind.wrap_i64];omega)) Av AQ).mono ?_;rintro e y ⟨A,u1,u2,u3,u4,rfl,h1,h2,h3,h4,a7,bm,z,Y⟩;have ab:wr.grownBy y (some g):=⟨Y.os,Y.tape,Y.output,Y.size,Y.block⟩;have H1:Hid (Bj (λb=>wr.drew.heap.size<=b) y u1 A.net.one.args):=h1;have H2:Hid (Dt (λb=>wr.drew.heap.size<=b) y u2 A.net.kids):=h2;have H3:Hid (Dn (λb=>wr.drew.heap.size<=b) y u3 A.coils):=h3;have H4:Hid (Fe (λb=>wr.drew.heap.size<=b) y u4 A.kids):=h4;obtain⟨e1,f1,rfl,-⟩:=h1;obtain⟨e2,f2,rfl,-⟩:=h2;obtain⟨e3,f3,rfl,-⟩:=h3;obtain⟨e4,f4,rfl,-⟩:=h4;have aD:=Cb l ab AQ;have zA:Hid (Nr y w.heap.size 0 0 AG AG AG AG):=aO.grownO ab BD;have jV:Hid (Nr y (w.heap.size+1) n.kind n.one.op av nv cv (AE a0 ks.length c0)):=aE.grownO ab BD;clear E D;obtain⟨aa,E,D⟩:=jV.c5))
          all_goals have aA:=az.out
          all_goals go_wp2
          all_goals
           have ai:Ac (CX (w.heap.size+1) (AE a0 ks.length c0)) wr (y.alloc (.cells #[AB A.net.kind,AB A.net.one.op,AE e1 A.net.one.args.length f1,AE e2 A.net.kids.length f2,AE e3 A.coils.length f3,AE e4 A.kids.length f4] 62)):=(Ac.of_grown ab (λb f e=>by have:=f.1;simp only[C0] at e;omega)).trans (Ac.of_below (Aa _ _));have ao:∀b,b<y.heap.size->wr.drew.heap.size<=b->CX (w.heap.size+1) (AE a0 ks.length c0) b:=λb _ f=>by
            have e:wr.drew.heap.size=wr.heap.size:=rfl;have jE:=aE.1;exact⟨AQ,λe2=>by have h1:=(l.lt _ e2).2;omega⟩
           have kH:=WM (bj.imp λ_ _ _ h=>h.keep ai) (Qb.keep (w:=y) (n:=A) ⟨_,_,_,_,rfl,H1.mono ao,H2.mono ao,H3.mono ao,H4.mono ao⟩ (Ac.of_below (Aa _ _))) rfl C aV;have el:(ks++[A]).length=ks.length+1:=AU
           refine⟨⟨af - 1,ks.length+1,AQ,by go_num,n,_,_,_,AE vP (ks.length+1) uY,q,ks++[A],_,bK.set AQ,aB.set5,(QC (eY.keep ai) C aV).keep (Ac.set B7 _),(P0 (qU.keep ai) C aV).keep (Ac.set B7 _),(ff (rC.keep ai) C aV).keep (Ac.set B7 _),?_,kH.imp (λ_ _ _ h=>h.keep (Ac.set B7 _)),U,V,xu.out,ah,?_,el,?_,?_⟩,by simp[intOf];omega⟩
           ·rw[el];exact ownsRow_setCell_below al (DV _) _
           ·intro c hc
            rcases List.mem_append.1 hc with hc | hc
            ·exact kT c hc
            ·simp at hc;subst hc;exact⟨a7,bm⟩
           ·exact Gl (Ku (Fh (Ci z _) C (λk hk=>by have:=l.lt _ hk;omega)) AQ _) (by rw[G4];omega)
           ·exact Oa (LC (DV _)) (J8 (Ei (Ed T ab) _) C (λk hk=>by have:=l.lt _ hk;omega)) _
         ·have bc:=ac
          have ba:=ae
          go_wp2
          go_meet;exact Or.inr ⟨ks.length,j,rfl,AQ,AQ,n,_,_,_,_,q,ks,ys,bc,ba,t,s,ak,l,K,U,V,G,ah,ax,rfl,z,T⟩
      case rest=>
       clear aM aP;rcases hcut with hcut | hcut
       ·obtain⟨n,av,nv,cv,q,xs,ac,ae,t,s,l,K,U,V,G,ah,z,T⟩:=hcut
        obtain⟨ag,J,q1,I,M,O,L,p0,p1,p2,p3,p4,p5⟩:=ac;obtain⟨aa,X,q7,q8,q9,F,E,p6,p7,Z,p9,H,D⟩:=ae;obtain⟨a1,c1,rfl,-⟩:=id t;obtain⟨a2,c2,rfl,-⟩:=id s;obtain⟨Q,R,ak,-⟩:=Hq l;subst ak;by_cases bh:q.length=0
        ·obtain rfl:q=[]:=List.length_eq_zero_iff.1 bh
         have ap:xs=[]:=by have:=K.1;simpa using this
         subst ap;have aO:Hid (Nr wc w.heap.size 0 0 AG AG AG AG):=⟨ag,J,q1,I,M,O,L,p0,p1,p2,p3,p4,p5⟩
         have aE:Hid (Nr wc (w.heap.size+1) n.kind n.one.op (AE a1 n.one.args.length c1) (AE a2 n.kids.length c2) (AE Q 0 R) AG):=⟨aa,X,q7,q8,q9,F,E,p6,p7,Z,p9,H,D⟩
         have eY:Hid (Bj (CX (w.heap.size+1) (AE Q 0 R)) wc (AE a1 n.one.args.length c1) n.one.args):=t;have qU:Hid (Dt (CX (w.heap.size+1) (AE Q 0 R)) wc (AE a2 n.kids.length c2) n.kids):=s;have aw:wc.ownsRow (w.heap.size+1+1) 46 2 (AE Q 0 R) 0 []:=l;clear t s K l G J q1 I M O L p0 p1 p2 p3 p4 p5 X q7 q8 q9 p6 p7 Z p9;go_upto_region 14 with fail
         rename_i aA;have az:=RO aA;clear aA
         go_region_law (first | (refine Ec rfl _ _ 60 rfl (w.heap.size+1+1) 46 ie (.agg #[AB 0,AG]) 2 32 underlying60 aT mF mD lZ rfl AY _ _ _ rfl (aD.alloc _) _ _ _ [AB op,AE a4 S.length c4] rfl rfl BS yGf A6 AQ B0 ?_;intro v' w6 al C aV;obtain⟨vP,uY,aF,-⟩:=Hq al;subst aF;have bK:Hid (Nr w6 w.heap.size 0 0 AG AG AG AG):=(zA.alloc _).grownO C (λe=>by have:=aw.lt _ e;omega);have aB:Hid (Nr w6 (w.heap.size+1) n.kind n.one.op (AE a1 n.one.args.length c1) (AE a2 n.kids.length c2) (AE Q 0 R) AG):=(jV.alloc _).grownO C (λe=>by have:=aw.lt _ e;omega);clear F H;obtain⟨aa,F,H⟩:=aB.c4) | (go_simp;go_at_call 47;refine(Tq g _ _ Av AQ).mono ?_;rintro e y ⟨op,v,S,rfl,aI,hv,hs,hl,z,Y⟩;have ab:wc.grownBy y (some g):=⟨Y.os,Y.tape,Y.output,Y.size,Y.block⟩;obtain⟨a4,c4,rfl,-⟩:=id hv;have aD:=Cb aw ab AQ;have zA:Hid (Nr y w.heap.size 0 0 AG AG AG AG):=aO.grownO ab BD;have jV:Hid (Nr y (w.heap.size+1) n.kind n.one.op (AE a1 n.one.args.length c1) (AE a2 n.kids.length c2) (AE Q 0 R) AG):=aE.grownO ab BD;clear F H;obtain⟨aa,F,H⟩:=jV.c4))
         all_goals
          clear F H E D;obtain⟨aa,X,q7,q8,q9,F,E,p6,p7,Z,p9,H,D⟩:=aB.out;obtain⟨ag,J,q1,I,M,O,L,p0,p1,p2,p3,p4,p5⟩:=bK.out
         all_goals have aA:=az.out
         all_goals go_wp2
         all_goals
          have ai:Ac (CX (w.heap.size+1) (AE Q 0 R)) wc (y.alloc (.cells #[AB op,AE a4 S.length c4] 46)):=(Ac.of_grown ab (λb f e=>by have:=f.1;simp only[C0] at e;omega)).trans (Ac.of_below (Aa _ _));have ao:∀b,b<y.heap.size->wc.drew.heap.size - 1<b->CX (w.heap.size+1) (AE Q 0 R) b:=λb _ f=>by
           have e:wc.drew.heap.size=wc.heap.size:=rfl;have jE:=aE.1;exact⟨AQ,λe2=>by have h1:=(aw.lt _ e2).2;omega⟩
          have kH:=UQ (RowOf.nil 2 (N8 (CX (w.heap.size+1) (AE Q 0 R)) _)) (N8.keep (w:=y) (e:=⟨op,S⟩) ⟨_,rfl,(Fg hv).mono ao⟩ (Ac.of_below (Aa _ _))) rfl C aV;have aj:∀b,b<w6.heap.size->CX (w.heap.size+1) (AE vP 1 uY) b->w.heap.size<b/\b≠w.heap.size+1:=λb _ f=>by have:=f.1;omega
          have au:Dn (λb=>w.heap.size<b/\b≠w.heap.size+1) w6 (AE vP 1 uY) [⟨op,S⟩]:=Jr (es:=[⟨op,S⟩]) al (kH.imp λ_ _ _ h=>h.mono aj) (λb f=>by have:=(al.lt _ f).1;omega);have a8:=(QC (eY.keep ai) C aV).mono aj;have bk:=(P0 (qU.keep ai) C aV).mono aj;have ay:∀(W:World) (b:Nat),b<W.heap.size->w.heap.size<b/\b≠w.heap.size+1->w.heap.size<=b:=λ_ b _ f=>by omega
          have dh:∀c∈[(⟨op,S⟩:Stil.Elem)],Yh c/\c.args.length<=3:=by
           intro c hc;simp at hc;subst hc;exact⟨⟨aI,hs,by show S.length<=100000;omega⟩,hl⟩
          have aG:=NG (ks:=[]) (N:=0) V dh (λ_ h=>BE);refine bodyPost_ret (by simp[results,results49,go_sem,J,q1,I,M,O,L];rfl) rfl ?_;refine⟨⟨n,[⟨op,S⟩],[]⟩,_,_,_,_,rfl,Bj.mono (a8.keep BJ) (ay _),Dt.mono (bk.keep BJ) (ay _),Dn.mono (au.keep BJ) (ay _),Tu _ _,QF (N:=0) U dh (λ_ h=>BE),by simp at aG;omega,?_,?_⟩
          ·have h6:=Fh (Ci z (.cells #[AB op,AE a4 S.length c4] 46)) C (λk hk=>by have:=aw.lt _ hk;omega)
           exact A3
          ·have h6:w.grownBy w6 (some g):=J8 (Ei (Ed T ab) _) C (λk hk=>by have:=aw.lt _ hk;omega)
           exact A2
        ·have bi:((q.length:Int)==0)=false:=by rw[CS];omega
         go_wp2
         have au:Dn (λb=>w.heap.size<b) wc (AE Q q.length R) q:=Jr l (K.imp λ_ _ _ h=>h.mono λb _ f=>by have:=f.1;omega) (λb f=>by have:=(l.lt _ f).1;omega);have aj:∀b,b<wc.heap.size->CX (w.heap.size+1) (AE Q q.length R) b->w.heap.size<b:=λb _ f=>by have:=f.1;omega
         have aG:=NG (ks:=[]) (N:=0) V G (λ_ h=>BE);refine bodyPost_ret (by simp[results,results49,go_sem,J,q1,I,M,O,L];rfl) rfl ?_;exact⟨⟨n,q,[]⟩,_,_,_,_,rfl,Bj.mono ((t.mono aj).keep BJ) FK,Dt.mono ((s.mono aj).keep BJ) FK,Dn.mono (au.keep BJ) FK,Tu _ _,QF (N:=0) U G (λ_ h=>BE),by simp at aG;omega,A3,A2⟩
       ·obtain⟨k,j,rfl,bv,aS,n,av,nv,cv,kv,q,ks,ys,ac,ae,t,s,ak,l,K,U,V,G,ah,ax,aR,z,T⟩:=hcut
        obtain⟨ag,J,q1,I,M,O,L,p0,p1,p2,p3,p4,p5⟩:=ac;obtain⟨aa,X,q7,q8,q9,F,E,p6,p7,Z,p9,H,D⟩:=ae;subst aR;have aX:ks.length*D1 j<=3*D1 j:=E6 _ aS;have br:ks.length*EX j<=3*EX j:=E6 _ aS;have ec:D1 (j+1)=3*D1 j+1000:=rfl;have en:EX (j+1)=3*EX j+200:=rfl;have bz:((ks.length:Int)==0)=false:=by rw[CS];omega
        obtain⟨a1,c1,rfl,-⟩:=id t;obtain⟨a2,c2,rfl,-⟩:=id s;obtain⟨Q,R,rfl,-⟩:=id ak;obtain⟨a0,c0,aL,-⟩:=Hq l;subst aL;cases bi:((q.length:Int)==0);all_goals go_wp2
        all_goals
         have bb:Fe (λb=>w.heap.size<b) wc (AE a0 ks.length c0) ks:=Gi l (K.imp λ_ _ _ h=>h.mono λb _ f=>by have:=f.1;omega) (λb f=>by have:=(l.lt _ f).1;omega);have aj:∀b,b<wc.heap.size->CX (w.heap.size+1) (AE a0 ks.length c0) b->w.heap.size<b:=λb _ f=>by have:=f.1;omega
         have aG:=NG V G ax;refine bodyPost_ret (by simp[results,results49,go_sem,J,q1,I,M,O,L];rfl) rfl ?_;exact⟨⟨n,q,ks⟩,_,_,_,_,rfl,Bj.mono ((t.mono aj).keep BJ) FK,Dt.mono ((s.mono aj).keep BJ) FK,Dn.mono ((ak.mono aj).keep BJ) FK,Fe.mono (bb.keep BJ) FK,QF U G ax,AQ,A3,A2⟩
theorem eR:∀(m:Nat) (d:Int) (root:Bool) (g P:Nat) (w:World),m<=100->d=m->Ij w g P->P+D1 m<=100000000->Calls prog 49 #[AH g,AB d, .bool root] w λe w'=>JK e w w' g (P+D1 m) (EX m)
 | 0,d,root,g,P,w,c,hd,f,b=>ZU 0 (λa h=>absurd h AQ) d root g P w hd c f b
 | m+1,d,root,g,P,w,c,hd,f,b=>ZU (m+1) (λa h j i o r w' l n q=>by
   have e:a=m:=AQ
   subst e
   exact eR a j i o r w' AQ l n q) d root g P w hd c f b
