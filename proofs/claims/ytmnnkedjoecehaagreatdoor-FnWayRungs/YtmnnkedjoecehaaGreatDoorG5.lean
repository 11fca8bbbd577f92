import Derived.Test.YtmnnkedjoecehaaGreatDoorGm
set_option maxHeartbeats 4000000
set_option maxRecDepth 100000
namespace Go.Proofs.YtmnnkedjoecehaaGreatDoor
open Tryz Stil Go.RowKit Go.Sort Go.BigFrame
variable {W w':World}{av kv:Value}{k op:Int}{r:Nat}
theorem P2:(prog.info? 59).map (λi=>(i.zero,i.size,i.bytes))=some (some (.agg #[AB 0,AB 0,AG,AG]),4,64):=AX
def NH (e:Ending)(w w':World)(g Q N:Nat):Prop:=∃(n:Stil.B8) (av kv:Value),e=.returned (.agg #[AB n.kind,AB n.one.op,av,kv])/\Bj (λb=>w.heap.size<=b) w' av n.one.args/\Dt (λb=>w.heap.size<=b) w' kv n.kids/\Ll n/\G9 n<=N/\Ij w' g Q/\w.grownBy w' (some g)
def TSF (n:Stil.B8):Prop:=Ll n/\Stil.shp n/\Stil.few 3 n
def JE (e:Ending)(w w':World)(g Q N:Nat):Prop:=∃(n:Stil.B8) (av kv:Value),e=.returned (.agg #[AB n.kind,AB n.one.op,av,kv])/\Bj (λb=>w.heap.size<=b) w' av n.one.args/\Dt (λb=>w.heap.size<=b) w' kv n.kids/\TSF n/\G9 n<=N/\Ij w' g Q/\w.grownBy w' (some g)
theorem JE.out {e:Ending}{w:World}{g Q N:Nat}(h:JE e w w' g Q N):NH e w w' g Q N:=by
 obtain⟨n,av,kv,f,b,a,d,c⟩:=h;exact⟨n,av,kv,f,b,a,d.1,c⟩
def E2:Nat->Nat
 | 0=>50
 | m+1=>3*E2 m+50
def FZ:Nat->Nat
 | 0=>10
 | m+1=>3*FZ m+10
theorem gB (m:Nat):50<=E2 m:=by cases m<;>simp[E2]
theorem ip (m:Nat):10<=FZ m:=by cases m<;>simp[FZ]
theorem Hl {a:List Stil.CC}(c:-1000000<=k/\k<=1000000)(e:-1000000<=op/\op<=1000000)(b:∀d∈a,Small d)(hl:a.length<=40):Ll ⟨k,⟨op,a⟩,[]⟩:=(Q9 _ _ _).2 ⟨c,⟨e,b,CM hl AY⟩,λ_ h=>by cases h⟩
theorem YF {ns:List Stil.B8}(a:-1000000<=k/\k<=1000000)(h:∀n∈ns,Ll n):Ll ⟨k,⟨0,[]⟩,ns⟩:=(Q9 _ _ _).2 ⟨a,⟨⟨AY,AY⟩,λ_ h=>BE,AU⟩,h⟩
theorem VC {a:List Stil.CC}(h:Ll ⟨1,⟨op,a⟩,[]⟩)(hl:a.length<=3):TSF ⟨1,⟨op,a⟩,[]⟩:=⟨h,(Ks _ _ _).2 ⟨.inl ⟨rfl,rfl⟩,λ_ h=>by cases h⟩,(SU _ _ _ _).2 ⟨hl,λ_ h=>by cases h⟩⟩
theorem ZG {ns:List Stil.B8}(b:(k=2\/k=3)/\0<ns.length\/k=4/\ns.length=1)(h:∀n∈ns,TSF n):TSF ⟨k,⟨0,[]⟩,ns⟩:=⟨YF AQ λn a=>(h n a).1,(Ks _ _ _).2 ⟨.inr b,λn a=>(h n a).2.1⟩,(SU _ _ _ _).2 ⟨DZ _,λn a=>(h n a).2.2⟩⟩
theorem KZ {s:Nat}{w:World}(h:s<=r):∀b,b<w.heap.size->r<b->s<b:=λ_ _ a=>Nat.lt_of_le_of_lt h a
theorem FK {w:World}:∀b,b<w.heap.size->r<b->r<=b:=λ_ _ h=>LC h
theorem Z6 {P:Nat->Prop}{cs:Array Value}{ns:List Stil.B8}{b:Nat}(c:b=W.heap.size)(h:RowOf 4 (Z8 P W) cs.toList ns)(d:P b)(hl:ns.length<=1000):Dt P (W.alloc (.cells cs 59)) (AE (some (AK b 0)) ns.length ns.length) ns:=by
 subst c;have f:=World.ownsRow_lit (base:=W.heap.size) (e:=59) (size:=4) W cs ns.length AQ A6 yGb;refine P5 f (h.imp λcs a _ g=>g.keep (Ac.of_below (Aa _ _))) (λb c=>?_);have:W.heap.size=b:=by simpa[Value.ownBlock] using c
 exact this ▸ d
def Ui (w:World)(b:Nat)(k op:Int)(av kv:Value):Prop:=b<w.heap.size/\w.cell? ⟨b,0,none⟩=some (AB k)/\w.cell? ⟨b,1,none⟩=some (AB op)/\w.cell? ⟨b,2,none⟩=some av/\w.cell? ⟨b,3,none⟩=some kv/\w.frozen? ⟨b,0,none⟩=false/\w.frozen? ⟨b,1,none⟩=false/\w.frozen? ⟨b,2,none⟩=false/\w.frozen? ⟨b,3,none⟩=false
theorem BL {b:Nat}(h:Ui W b k op av kv:=by refine⟨BR,?_,?_,?_,?_,?_,?_,?_,?_⟩<;>first | (exact cfA;done) | (repeat (first | with_reducible assumption | with_reducible refine O0.trans ?_ | with_reducible refine Ld.trans ?_ | with_reducible refine(Ip BR).trans ?_ | (simp[go_sem];done)))):Ui W b k op av kv:=h
theorem Ui.grownO {w:World}{b:Nat}{r:Option Nat}(h:Ui w b k op av kv)(hg:w.grownBy w' r)(hr:r≠some b):Ui w' b k op av kv:=by
 obtain⟨d,f⟩:=h;have e:w'.heap[b]?=w.heap[b]?:=hg.block b d (λx=>hr x.symm);have c:∀o,w'.cell? (AK b o)=w.cell? (AK b o):=λo=>by unfold World.cell?;rw[e]
 have a:∀o,w'.frozen? (AK b o)=w.frozen? (AK b o):=λo=>by unfold World.frozen?;rw[e]
 refine⟨CB d hg.size,?_⟩;rw[c,c,c,c,a,a,a,a];exact f
theorem gv (g P:Nat)(w:World)(hr:Ij w g P)(F:P<=100000000):
  Calls prog 78 #[AH g,AB 0] w λe w'=>JE e w w' g (P+50) 10:=by
 have J:=V8 hr;go_enter func78,ntmps78
 go_wp2_with (first | (go_at_call_of 24 (Value.int IntKind.i64 7);refine(Fv g _ _ _ Av AQ AQ AQ).mono ?_;rintro e A ⟨x,rfl,I,M,n,G⟩;obtain⟨L,c,q,q1,y,f,l,j,t⟩:EQ A w.heap.size:=EW) | (go_at_call 50;refine(I5 g _ _ Av AQ).mono ?_;rintro e B ⟨op,v,u,rfl,m,d,z,D,n,H⟩;have C:=d;obtain⟨aa,K,rfl,_,_⟩:=C;obtain⟨E,c,q,q1,y,f,l,j,t⟩:EQ B w.heap.size:=EW))
 refine bodyPost_ret (by simp[results,results78,go_sem,c,q1,f,j];rfl) rfl ?_;exact⟨⟨1,⟨op,u⟩,[]⟩,_,_,rfl,Bj.mono (((Fg d).mono (KZ (s:=w.heap.size) AQ)).keep BJ) FK,Jk _ _,VC (Hl AY m z AQ) D,by rw[Fa];simp;omega,A3,A2⟩
theorem gq (m:Nat)(ih:∀(d:Int) (g P:Nat) (w:World),d=m->Ij w g P->P+E2 m<=100000000->Calls prog 78 #[AH g,AB d] w λe w'=>JE e w w' g (P+E2 m) (FZ m))
  (d:Int) (g P:Nat) (w:World) (hd:d=m+1) (hm:m<=100) (hr:Ij w g P) (hP:P+E2 (m+1)<=100000000):
  Calls prog 78 #[AH g,AB d] w λe w'=>JE e w w' g (P+E2 (m+1)) (FZ (m+1)):=by
 have hg:=V8 hr;have aN:=gB m;have aH:=ip m;have e1:E2 (m+1)=3*E2 m+50:=rfl;have e2:FZ (m+1)=3*FZ m+10:=rfl;rw[e1] at hP;rw[e1,e2];clear e1 e2;obtain⟨c,hc⟩:=AA (E2 m)
 obtain⟨N,hN⟩:=AA (FZ m)
 rw[<-hc] at ih aN hP;rw[<-hN] at ih aH;rw[<-hc,<-hN];have IH:Hid (∀(d:Int) (g P:Nat) (w:World),d=m->Ij w g P->P+c<=100000000->Calls prog 78 #[AH g,AB d] w λe w'=>JE e w w' g (P+c) N):=ih;clear ih hc hN;have a6:decide (d<=0)=false:=by rw[Ft];omega
 obtain⟨i0,hi,aM,aB,aF⟩:=info_parts P2;go_enter func78,ntmps78;go_upto_if 37 with(first | (go_at_call_of 24 (Value.int IntKind.i64 7);refine(Fv g _ _ _ Av AQ AQ AQ).mono ?_;rintro e t ⟨k,rfl,aX,ba,y,aQ⟩;obtain⟨aj,q,B,q1,C,l,D,x,E⟩:EQ t w.heap.size:=EW) | (go_at_call 50;refine(I5 g _ _ Av AQ).mono ?_;rintro e wb ⟨op,v,ds,rfl,ay,hv,hs,hl,y,aR⟩;have aL:=hv;obtain⟨aa,cc,rfl,_,_⟩:=aL;obtain⟨I,q,B,q1,C,l,D,x,E⟩:EQ wb w.heap.size:=EW) | (go_at_call 78;refine(IH _ g _ _ AQ Av AQ).mono ?_;rintro e wd ⟨f,av,kv,rfl,ae,ab,ag,aA,y,aZ⟩;obtain⟨I,q,B,q1,C,l,D,x,E⟩:EQ wd w.heap.size:=EW) | (go_at_call_of 24 (Value.int IntKind.i64 2);refine(Fv g _ _ _ Av AQ AQ AQ).mono ?_;rintro e wc ⟨a9,rfl,az,aO,y,a7⟩;obtain⟨I,q,B,q1,C,l,D,x,E⟩:EQ wc w.heap.size:=EW;obtain⟨af,S,R,L,M,K,Q,T,U⟩:FR wc t.heap.size (AB (2+k % 2)) (AB 0) AG AG:=qb4) | (go_at_call_of 24 (Value.int IntKind.i64 8);refine(Fv g _ _ _ Av AQ AQ AQ).mono ?_;rintro e we ⟨a3,rfl,bb,aS,y,aU⟩;obtain⟨I,q,B,q1,C,l,D,x,E⟩:EQ we w.heap.size:=EW;obtain⟨af,S,R,L,M,K,Q,T,U⟩:FR we t.heap.size (AB (2+k % 2)) (AB 0) AG AG:=qb4))
 ·refine bodyPost_ret (by simp[results,results78,go_sem,q,q1,l,x];rfl) rfl ?_
  exact⟨⟨1,⟨op,ds⟩,[]⟩,_,_,rfl,Bj.mono (((Fg hv).mono (KZ (s:=w.heap.size) AQ)).keep BJ) FK,Jk _ _,VC (Hl AY ay hs AQ) hl,by rw[Fa];simp;omega,A3,A2⟩
 ·refine bodyPost_ret (by simp[results,results78,go_sem,q,q1,l,x,I];rfl) rfl ?_
  have ac:RowOf 4 (Z8 (λb=>w.heap.size<b) wd) [AB f.kind,AB f.one.op,av,kv] [f]:=RowOf.one rfl ⟨av,kv,rfl,ae.mono (λ_ _ h=>CB aj h),ab.mono (λ_ _ h=>CB aj h)⟩;refine⟨⟨4,⟨0,[]⟩,[f]⟩,_,_,rfl,Tt _ _,Dt.mono (Z6 (P:=λb=>w.heap.size<b) (cs:=#[AB f.kind,AB f.one.op,av,kv]) (ns:=[f]) AU (ac.imp λ_ _ _ h=>h.keep BJ) AQ AU) FK,ZG (.inr ⟨rfl,rfl⟩) (λn A=>by simp at A;subst A;exact ag),by rw[Fa];simp;omega,A3,A2⟩
 ·go_cut [7] (λsm wq=>∃H:Nat,sm=AB H/\1<=H/\H<=3/\Ij wq g (P+3)/\w.grownBy wq (some g)/\Ui wq w.heap.size 0 0 AG AG/\Ui wq t.heap.size (2+k % 2) 0 AG AG)
  case first=>
   go_wp2
   ·go_meet
    exact⟨1,rfl,AQ,AQ,A3,A2,BL,BL⟩
   ·go_meet
    obtain⟨yn,rfl⟩:=FW az;exact⟨2+yn,by go_num,AQ,AQ,A3,A2,BL,BL⟩
  case rest=>
   clear q q1 l x S L K T B C D E R M Q U y;obtain⟨H,rfl,a5,a8,y,ai,ak,al⟩:=hcut
   go_wp2
   go_loopw [8] (λi wr=>∃(j:Nat) (ns:List Stil.B8) (v:Value) (xs:List Value),j<=H/\i=AB j/\ns.length=j/\Ui wr w.heap.size 0 0 AG AG/\Ui wr t.heap.size (2+k % 2) 0 AG v/\wr.ownsRow (t.heap.size+1) 59 4 v j xs/\RowOf 4 (Z8 (CX t.heap.size v) wr) xs ns/\(∀n∈ns,TSF n)/\(ns.map G9).sum<=j*N/\Ij wr g (P+3+j*c)/\w.grownBy wr (some g)) (λi _=>H - (intOf i).toNat)
   case atStart=>exact⟨0,[],_,[],AQ,rfl,rfl,ak,al,⟨rfl,Or.inl ⟨rfl,rfl⟩⟩,RowOf.nil _ _,λ_ h=>BE,AU,by simpa using y,ai⟩
   case round=>
    obtain⟨j,ns,v,xs,hj,rfl,ao,ak,al,z,ac,lV,aY,y,ai⟩:=hrel;obtain⟨I,q,q1,l,x,B,C,D,E⟩:=ak;obtain⟨af,S,L,K,T,R,M,Q,U⟩:=al;by_cases aP:j<H
    ·have au:(j+1)*c<=3*c:=E6 c AQ
     rw[G4] at au;obtain⟨O,J,an,_⟩:=Hq z;subst an;go_upto_region 13 with fail
     go_region_law (first | (refine Ec rfl _ _ 57 rfl (t.heap.size+1) 59 i0 (.agg #[AB 0,AB 0,AG,AG]) 4 64 underlying57 hi aM aB aF rfl AY _ _ _ rfl (aD.alloc _) _ _ _ [AB f.kind,AB f.one.op,AE a1 f.one.args.length c1,AE Z f.kids.length c2] rfl rfl BS yCh A6 AQ B0 ?_;intro v' w6 ap V aV;obtain⟨vP,uY,aJ,_⟩:=Hq ap;subst aJ;have ax:Ui (G.alloc (.cells #[AB f.kind,AB f.one.op,AE a1 f.one.args.length c1,AE Z f.kids.length c2] 59)) w.heap.size 0 0 AG AG:=BL;have aI:Ui (G.alloc (.cells #[AB f.kind,AB f.one.op,AE a1 f.one.args.length c1,AE Z f.kids.length c2] 59)) t.heap.size (2+k % 2) 0 AG (AE O j J):=BL;clear q q1 l x S L K T B C D E R M Q U;obtain⟨I,q,q1,l,x,B,C,D,E⟩:=ax.grownO V (λe=>by have:=z.lt _ e;omega);obtain⟨af,S,L,K,T,R,M,Q,U⟩:=aI.grownO V (λe=>by have:=z.lt _ e;omega)) | (go_simp;go_at_call 78;refine(IH _ g _ _ (by first | omega | (rw[IntKind.wrap_i64];omega)) Av AQ).mono ?_;rintro e G ⟨f,av,kv,rfl,ae,ab,ag,aA,y,X⟩;have ah:wr.grownBy G (some g):=⟨X.os,X.tape,X.output,X.size,X.block⟩;have aE:=ae;have aw:=ab;obtain⟨a1,c1,rfl,_,_⟩:=aE;obtain⟨Z,c2,rfl,_,_⟩:=aw;have aD:=Cb z ah AQ;obtain⟨I,q,B,q1,C,l,D,x,E⟩:EQ G w.heap.size:=EW;obtain⟨af,S,R,L,M,K,Q,T,U⟩:FR G t.heap.size (AB (2+k % 2)) (AB 0) AG (AE O j J):=qb4))
     all_goals go_wp2
     all_goals
      have aG:Ac (CX t.heap.size (AE O j J)) wr (G.alloc (.cells #[AB f.kind,AB f.one.op,AE a1 f.one.args.length c1,AE Z f.kids.length c2] 59)):=(Ac.of_grown ah (λb F e=>by have:=F.1;simp only[C0] at e;omega)).trans (Ac.of_below (Aa _ _));have ar:∀b,b<G.heap.size->wr.drew.heap.size<=b->CX t.heap.size (AE O j J) b:=λb _ F=>⟨by have:wr.heap.size<=b:=F;omega,λe=>by have h1:=(z.lt _ e).2;have:wr.heap.size<=b:=F;omega⟩
      have kH:=vE (ac.imp λ_ _ _ h=>h.keep aG) (Z8.keep (w:=G) ⟨_,_,rfl,ae.mono ar,ab.mono ar⟩ (Ac.of_below (Aa _ _))) rfl V aV;refine⟨⟨j+1,ns++[f],AE vP (j+1) uY,_,AQ,by go_num,by simp[ao],BL,BL,ownsRow_setCell_below ap (DV _) _,kH.imp (λ_ _ _ h=>h.keep (Ac.set B7 _)),?_,?_,?_,?_⟩,by simp[intOf];omega⟩
      ·intro n A
       rcases List.mem_append.1 A with A | A
       ·exact lV n A
       ·simp at A;subst A;exact ag
      ·have es:((ns++[f]).map G9).sum=(ns.map G9).sum+G9 f:=by simp
       rw[es,G4];omega
      ·exact Gl (Ku (Fh (Ci y _) V (λk Y=>by have:=z.lt _ Y;omega)) AQ _) (by rw[G4];omega)
      ·exact Oa (LC aj) (J8 (Ei (Ed ai ah) _) V (λk Y=>by have:=z.lt _ Y;omega)) _
    ·obtain⟨O,J,an,_⟩:=Hq z
     subst an
     go_wp2
     have aT:j=H:=AQ
     have au:j*c<=3*c:=E6 c AQ;have aW:j*N<=3*N:=E6 N AQ;have Y:Dt (λb=>w.heap.size<b) wr (AE O j J) ns:=by
      subst ao;exact P5 z (ac.imp λ_ _ _ h=>h.mono λb _ F=>by have:=F.1;omega) (λb F=>by have:=(z.lt _ F).1;omega)
     refine bodyPost_ret (by simp[results,results78,go_sem,q,q1,l,x];rfl) rfl ?_;refine⟨⟨2+k % 2,⟨0,[]⟩,ns⟩,_,_,rfl,Tt _ _,Dt.mono (Y.keep BJ) FK,ZG (.inl ⟨AQ,AQ⟩) lV,?_,A3,A2⟩;rw[Fa];simp;omega
theorem ZT:∀(m:Nat) (d:Int) (g P:Nat) (w:World),m<=100->d=m->Ij w g P->P+E2 m<=100000000->Calls prog 78 #[AH g,AB d] w λe w'=>JE e w w' g (P+E2 m) (FZ m)
 | 0,d,g,P,w,_,hd,a,b=>by
  subst hd;exact gv g P w a AQ
 | m+1,d,g,P,w,c,hd,a,b=>gq m (λd g P w hd a b=>ZT m d g P w AQ hd a b) d g P w (by simpa using hd) AQ a b
theorem j7 (m:Nat)(d:Int)(g P:Nat)(w:World)(a:m<=100)(hd:d=m)(hr:Ij w g P)(b:P+E2 m<=100000000):Calls prog 78 #[AH g,AB d] w λe w'=>NH e w w' g (P+E2 m) (FZ m):=(ZT m d g P w a hd hr b).mono λ_ _ h=>h.out
theorem Ax4 (n g P:Nat)(w:World)(q:n<=300)(hr:Ij w g P)(hP:P<=100000000):
  Calls prog 45 #[AH g,AB n] w λe w'=>NH e w w' g (P+6000) 3000:=by
 have hg:=V8 hr;go_enter func45,ntmps45
 go_wp2_with ((go_at_call 50;refine(I5 g _ _ Av AQ).mono ?_;rintro e c ⟨op,v,u,rfl,T,O,hs,hl,F,al⟩;have ah:=O;obtain⟨aa,cc,rfl,_,_⟩:=ah;obtain⟨ar,A,H,q1,I,x,J,D,N⟩:EQ c w.heap.size:=EW))
 have ae:Bj (λb=>w.heap.size<b) c (AE aa u.length cc) u:=(Fg O).mono (KZ AU);go_loopw [6] (λi wr=>∃(j:Nat) (M:Stil.B8) (av kv:Value),1<=j/\(j<=n\/j=1)/\i=AB j/\Ui wr w.heap.size 0 0 AG AG/\Ui wr c.heap.size M.kind M.one.op av kv/\Bj (λb=>w.heap.size<b/\b≠c.heap.size) wr av M.one.args/\Dt (λb=>w.heap.size<b/\b≠c.heap.size) wr kv M.kids/\Ll M/\G9 M<=10*j/\Ij wr g (P+20*j)/\w.grownBy wr (some g)) (λi _=>n - (intOf i).toNat)
 case atStart=>
  refine⟨1,⟨1,⟨op,u⟩,[]⟩,_,_,AQ,AQ,rfl,BL,BL,(ae.mono λb z h=>⟨h,AQ⟩).keep BJ,Jk _ _,Hl AY T hs AQ,by rw[Fa];simp;omega,A3,A2⟩
 case round=>
  obtain⟨j,M,av,kv,an,ax,rfl,af,aj,C,t,S,ao,F,ap⟩:=hrel;obtain⟨Z,A,q1,x,D,H,I,J,N⟩:=af;obtain⟨ai,q4,q5,Y,q7,p4,p5,p6,p7⟩:=aj;have aw:j<=300:=AQ
  obtain⟨E,y,rfl,_⟩:=id C;obtain⟨s,B,rfl,_⟩:=id t;by_cases ak:j<n
  ·go_upto_region 5 with fail
   go_region_with (go_at_call 50;refine(I5 g _ _ Av AQ).mono ?_;rintro e d ⟨l,v2,m,rfl,wW,L,ag,au,F,f⟩;have ab:wr.grownBy d (some g):=⟨f.os,f.tape,f.output,f.size,f.block⟩;have V:=L;obtain⟨G,R,rfl,_,_⟩:=V;obtain⟨Z,A,H,q1,I,x,J,D,N⟩:EQ d w.heap.size:=EW;obtain⟨ai,q4,p4,q5,p5,Y,p6,q7,p7⟩:FR d c.heap.size (AB M.kind) (AB M.one.op) (AE E M.one.args.length y) (AE s M.kids.length B):=qb4)
   all_goals go_wp2
   all_goals
    have X:-1000000<=(2+(j:Int) % 2)/\(2+(j:Int) % 2)<=1000000:=by
     omega
    have K:Ac (λb=>w.heap.size<b/\b≠c.heap.size) wr d:=Ac.of_grown ab (λb z e=>by have:=z.1;simp only[C0] at e;omega);have U:∀b,b<d.heap.size->wr.drew.heap.size - 1<b->w.heap.size<b/\b≠c.heap.size:=λb _ z=>by have e:wr.drew.heap.size=wr.heap.size:=rfl;omega
    have ac:RowOf 4 (Z8 (λb=>w.heap.size<b/\b≠c.heap.size) d) [AB 1,AB l,AE G m.length R,AG,AB M.kind,AB M.one.op,AE E M.one.args.length y,AE s M.kids.length B] [⟨1,⟨l,m⟩,[]⟩,M]:=(RowOf.one (cs:=[AB 1,AB l,AE G m.length R,AG]) rfl ⟨_,_,rfl,(Fg L).mono U,Jk _ _⟩).append (RowOf.one (cs:=[AB M.kind,AB M.one.op,AE E M.one.args.length y,AE s M.kids.length B]) rfl ⟨_,_,rfl,C.keep K,t.keep K⟩);refine⟨⟨j+1,⟨(2+(j:Int) % 2),⟨0,[]⟩,[⟨1,⟨l,m⟩,[]⟩,M]⟩,_,_,AQ,AQ,by go_num,BL,(show Ui _ c.heap.size (2+(j:Int) % 2) 0 AG (AE (some (AL d 0)) 2 2) from BL),Tt _ _,Z6 (b:=d.heap.size) (ns:=[⟨1,⟨l,m⟩,[]⟩,M]) AU (ac.imp λ_ _ _ h=>h.keep BJ) ⟨AQ,AQ⟩ AU,YF X (λn q=>?_),?_,A3,A2⟩,by simp[intOf];omega⟩
    ·simp only[C7,EA,DR] at q
     rcases q with rfl | rfl
     ·exact Hl AY wW ag AQ
     ·exact S
    ·rw[Fa]
     simp[Fa 1];omega
  ·go_wp2
   refine bodyPost_ret (by simp[results,results45,go_sem,A,q1,x,D];rfl) rfl ?_;have Q:∀b,b<wr.heap.size->w.heap.size<b/\b≠c.heap.size->w.heap.size<b:=λ_ _ h=>h.1
   exact⟨M,_,_,rfl,Bj.mono ((C.mono Q).keep BJ) FK,Dt.mono ((t.mono Q).keep BJ) FK,S,AQ,A3,A2⟩
